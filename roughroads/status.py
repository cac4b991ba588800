"""Stage 6: whether each road is used, or needed, always, sometimes or never."""
from roughroads.needing import find_needed, find_unneeded
from roughroads.plain import how_often
from roughroads.using import find_unused, find_used


def used_status(web):
    """Return for each road whether it is used for all lengths, for some or for none."""
    return [how_often(find_unused(web, road) is None, find_used(web, road) is None)
            for road in range(len(web[1]))]


def needed_status(web):
    """Return for each road whether it is needed for all lengths, for some or for none."""
    return [how_often(find_unneeded(web, road) is None, find_needed(web, road) is None)
            for road in range(len(web[1]))]
