"""Stage 8: the total of a least tree, over all lengths."""
from roughroads.trees import least_total
from roughroads.webs import highs, lows


def total_range(web):
    """Return the least and the greatest total of a least tree, over all lengths."""
    return (least_total(web, lows(web)), least_total(web, highs(web)))


def find_total(web, number):
    """Return lengths for which a least tree has this total, or None if there are none."""
    # A road that gets longer by 1 makes the least total greater by 0 or 1.
    return find_between(lows(web), highs(web), lambda lengths: least_total(web, lengths), number)


def find_between(start, end, worth, number):
    """Return the first lengths on the way from start to end whose worth is the number, or None if there are none.

    On this way one road after the other changes by 1 at a time; each change must make the worth greater by 0 or 1.
    """
    first = 0
    last = sum([abs(one - other) for one, other in zip(start, end)])
    while first < last:
        middle = (first + last) // 2
        if worth(moved(start, end, middle)) < number:
            first = middle + 1
        else:
            last = middle
    found = moved(start, end, first)
    return found if worth(found) == number else None


def moved(start, end, steps):
    """Return the lengths after so many changes by 1 from start on towards end, the first road first."""
    found = []
    for one, other in zip(start, end):
        by = min(steps, abs(other - one))
        found.append(one + by if one < other else one - by)
        steps = steps - by
    return tuple(found)
