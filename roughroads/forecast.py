"""Stage 16: which roads have to be measured until one tree is least, if the true lengths are given."""
from roughroads.measuring import settled_tree, with_lengths
from roughroads.trees import choices


def is_enough(web, lengths, roads):
    """Return whether an ascending tuple of roads is enough."""
    return settled_tree(with_lengths(web, lengths, roads)) is not None


def fewest(web, lengths):
    """Return all tuples of roads that are enough and have as few roads as possible, in ascending order."""
    many = len(web[1])
    count = 0
    found = []
    # All roads together are always enough.
    while not found:
        found = [roads for roads in choices(many, count) if is_enough(web, lengths, roads)]
        count = count + 1
    return found


def unavoidable(web, lengths):
    """Return, in ascending order, the roads that are in every tuple that is enough."""
    # What is enough stays so with more roads: if anything is enough without a road, then all others are.
    return [road for road in range(len(web[1])) if not is_enough(web, lengths, all_but(web, road))]


def all_but(web, road):
    """Return all other roads, as an ascending tuple."""
    return tuple([other for other in range(len(web[1])) if other != road])
