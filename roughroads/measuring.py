"""Stage 11: measured roads, and webs in which one tree is least for all lengths."""
from roughroads.regrets import greatest_regret
from roughroads.trees import grown
from roughroads.webs import bounded, high_of, low_of


def with_length(web, road, length):
    """Return the web in which the low and the high of a road are this length."""
    return bounded(web, road, length, length)


def with_lengths(web, lengths, roads):
    """Return the web in which each of some roads has its length."""
    for road in roads:
        web = with_length(web, road, lengths[road])
    return web


def settled_tree(web):
    """Return the first tree that is a least tree for all lengths, or None if there is none."""
    # If there are such trees, they are those that are least by (high, low) of their roads: two such trees
    # differ only in roads that have one length, the same. This is the first of them; so it alone is tried.
    roads = sorted(range(len(web[1])), key=lambda road: (high_of(web, road), low_of(web, road)))
    tree = grown(web, roads)
    return tree if greatest_regret(web, tree) == 0 else None


def settling(web, road):
    """Return, in ascending order, the lengths of a road with which the web is settled."""
    return [length for length in range(low_of(web, road), high_of(web, road) + 1)
            if settled_tree(with_length(web, road, length)) is not None]
