"""Stage 7: exchanges of a whole tree, and whether it is least always, sometimes or never."""
from roughroads.plain import first_of, how_often
from roughroads.trees import is_tree
from roughroads.webs import best_lengths, high_of, low_of, worst_lengths


def exchanges(web, tree):
    """Return all exchanges of a tree in ascending order."""
    others = [road for road in range(len(web[1])) if road not in tree]
    return [(out, other) for out in tree for other in others
            if is_tree(web, exchanged(tree, out, other))]


def exchanged(tree, out, other):
    """Return the roads of a tree with another road in the place of one."""
    return tuple(sorted([road for road in tree if road != out] + [other]))


def find_least(web, tree):
    """Return lengths for which the tree is a least tree, or None if there are none."""
    # If it is least for any lengths, it is least with its roads at their lows, all others at their highs.
    return best_lengths(web, tree) if find_sure_exchange(web, tree) is None else None


def find_beaten(web, tree):
    """Return lengths for which the tree is not a least tree, or None if there are none."""
    # A tree that is not least is made less by an exchange, and no lengths favour one more than these.
    gains = [low_of(web, other) < high_of(web, out) for out, other in exchanges(web, tree)]
    return worst_lengths(web, tree) if any(gains) else None


def find_sure_exchange(web, tree):
    """Return the first sure exchange, or None if there is none."""
    return first_of([(out, other) for out, other in exchanges(web, tree)
                     if high_of(web, other) < low_of(web, out)])


def tree_status(web, tree):
    """Return whether the tree is a least tree for all lengths, for some or for none."""
    return how_often(find_beaten(web, tree) is None, find_least(web, tree) is None)
