"""Stage 13: what may be built or dropped next, while the plan holds."""
from roughroads.measuring import with_length
from roughroads.plans import find_breach, undecided
from roughroads.webs import high_of, low_of


def taken(plan, step):
    """Return the plan with a step taken."""
    built, dropped = plan
    word, road = step
    if word == "build":
        return (with_number(built, road), dropped)
    return (built, with_number(dropped, road))


def with_number(numbers, number):
    """Return an ascending tuple with a number more."""
    return tuple(sorted([*numbers, number]))


def steps(web, plan):
    """Return all steps in ascending order, those that are no options, too."""
    return [(word, road) for word in ("build", "drop") for road in undecided(web, plan)]


def is_option(web, plan, step):
    """Return whether the plan holds with a step taken."""
    return find_against(web, plan, step) is None


def options(web, plan):
    """Return all options in ascending order."""
    return [step for step in steps(web, plan) if is_option(web, plan, step)]


def find_against(web, plan, step):
    """Return lengths that the plan with the step taken does not serve, or None if there are none."""
    return find_breach(web, taken(plan, step))


def openers(web, plan, step):
    """Return, in ascending order, the roads that have a length with which the step is an option."""
    return [road for road in range(len(web[1])) if opens(web, plan, step, road)]


def opens(web, plan, step, road):
    """Return whether the road has a length with which the step is an option."""
    return any([is_option(with_length(web, road, length), plan, step)
                for length in range(low_of(web, road), high_of(web, road) + 1)])


def clashes(web, plan):
    """Return, in ascending order, all pairs of options for different roads that cannot both be taken."""
    every = options(web, plan)
    return [(one, other) for one in every for other in every
            if one < other and one[1] != other[1] and not is_option(web, taken(plan, one), other)]


def completed(web, plan):
    """Return the plan that is left when the first option is taken until there is none."""
    every = options(web, plan)
    while every:
        plan = taken(plan, every[0])
        every = options(web, plan)
    return plan
