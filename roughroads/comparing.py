"""Stage 10: the least totals of two webs with the same bounds, compared over all lengths."""
from roughroads.plain import first_of
from roughroads.trees import least_total, trees
from roughroads.webs import best_lengths


def difference(web, other, lengths):
    """Return the total of a least tree of the web minus that of a least tree of the other one."""
    return least_total(web, lengths) - least_total(other, lengths)


def lengths_for_each(web):
    """Return for each tree of the web the lengths that favour it most. The extreme differences are among them."""
    # Where a tree is least, its roads may get shorter by 1 until they have their lows: its total falls by 1 each
    # time, that of the other web's least tree by 0 or 1. Other roads that get longer never shorten that one.
    return [best_lengths(web, tree) for tree in trees(web)]


def difference_range(web, other):
    """Return the least and the greatest difference of the least totals of two webs, over all lengths."""
    return (min([difference(web, other, lengths) for lengths in lengths_for_each(web)]),
            max([difference(web, other, lengths) for lengths in lengths_for_each(other)]))


def find_longer(web, other):
    """Return lengths for which the least total of the web is greater than that of the other one, or None."""
    return first_of([lengths for lengths in lengths_for_each(other) if difference(web, other, lengths) > 0])
