"""Stage 21: which roads have to be measured until the first tree is known, if the true lengths are given."""
from roughroads.firsttrees import detour_in, find_fixed, first_tree, hi, lo, not_in, surely_before
from roughroads.measuring import with_lengths


def fixes(web, lengths, roads):
    """Return whether an ascending tuple of roads fixes the tree."""
    return find_fixed(with_lengths(web, lengths, roads)) is not None


def pairs(web, lengths):
    """Return all pairs of a road of the first tree and one that is not in it, in ascending order."""
    tree = first_tree(web, lengths)
    return sorted([(one, other) for other in not_in(web, tree) for one in detour_in(web, tree, other)])


def compulsory(web, lengths):
    """Return a dict from all compulsory roads to a ground."""
    found = {}
    for one, other in pairs(web, lengths):
        if hi(web, one) > (lengths[other], other):
            found[one] = other
        if (lengths[one], one) > lo(web, other):
            found[other] = one
    return found


def unsure_pairs(web, lengths):
    """Return the ascending list of the unsure pairs of which no road is compulsory."""
    known = compulsory(web, lengths)
    return [(one, other) for one, other in pairs(web, lengths)
            if not surely_before(web, one, other) and one not in known and other not in known]
