"""Stage 9: how much longer than a least tree a tree may be, over all lengths."""
from roughroads.totals import find_between
from roughroads.trees import least_total, total, trees
from roughroads.webs import best_lengths, worst_lengths


def regret(web, tree, lengths):
    """Return the regret of a tree for some lengths."""
    return total(lengths, tree) - least_total(web, lengths)


def regret_range(web, tree):
    """Return the least and the greatest regret of a tree, over all lengths."""
    # A road of the tree that gets longer, or another one that gets shorter, never makes the regret less.
    return (regret(web, tree, best_lengths(web, tree)), greatest_regret(web, tree))


def greatest_regret(web, tree):
    """Return the greatest regret of a tree, over all lengths."""
    return regret(web, tree, worst_lengths(web, tree))


def find_regret(web, tree, number):
    """Return lengths for which the tree has this regret, or None if there are none."""
    # On the way from the best lengths to the worst ones each change by 1 makes the regret greater by 0 or 1.
    best, worst = best_lengths(web, tree), worst_lengths(web, tree)
    return find_between(best, worst, lambda lengths: regret(web, tree, lengths), number)


def least_regret(web):
    """Return the list of the trees whose greatest regret is least, and this greatest regret."""
    every = trees(web)
    greatest = [greatest_regret(web, tree) for tree in every]
    least = min(greatest)
    return ([tree for tree, number in zip(every, greatest) if number == least], least)
