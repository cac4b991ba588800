"""What an office and its log share: which events are possible, and what they make of a web and a plan."""
from roughroads.edits import with_bounds, with_road
from roughroads.measuring import with_length
from roughroads.plain import is_integer
from roughroads.plans import undecided
from roughroads.steps import taken
from roughroads.webs import are_bounds, is_length, is_road, may_be_added

NOTHING_DECIDED = ((), ())


def is_undecided(web, plan, value):
    """Return whether any value is an undecided road."""
    return is_integer(value) and value in undecided(web, plan)


def is_event(web, plan, value):
    """Return whether any value is an event for the web and the plan, whether or not the plan holds behind it."""
    if not isinstance(value, tuple) or not value:
        return False
    word, given = value[0], value[1:]
    if word == "measure":
        return len(given) == 2 and is_road(web, given[0]) and is_length(web, given[0], given[1])
    if word == "build" or word == "drop":
        return len(given) == 1 and is_undecided(web, plan, given[0])
    if word == "correct":
        return len(given) == 3 and is_road(web, given[0]) and are_bounds(given[1], given[2])
    return word == "add" and may_be_added(web, given)


def done(web, plan, event):
    """Return the web and the plan behind an event."""
    word = event[0]
    if word == "measure":
        return (with_length(web, event[1], event[2]), plan)
    if word == "correct":
        return (with_bounds(web, event[1], event[2], event[3]), plan)
    if word == "add":
        return (with_road(web, event[1], event[2], event[3], event[4]), plan)
    return (web, taken(plan, event))
