"""Stage 18: the log of an office, and how any log is checked along its reasons."""
from roughroads.edits import kept
from roughroads.events import NOTHING_DECIDED, done, is_event
from roughroads.plain import is_integer
from roughroads.plans import is_paper


def log(office):
    """Return the log of an office."""
    return office.entries()


def is_log(web, value):
    """Return whether any value is a log for the web."""
    if not isinstance(value, list):
        return False
    plan, paper = NOTHING_DECIDED, {}
    for entry in value:
        if not is_entry(web, plan, paper, entry):
            return False
        web, plan, paper = behind(web, plan, paper, entry)
    return True


def replayed(web, log):
    """Return the web, the plan and the paper behind the last entry of a log."""
    plan, paper = NOTHING_DECIDED, {}
    for entry in log:
        web, plan, paper = behind(web, plan, paper, entry)
    return (web, plan, paper)


def is_entry(web, plan, paper, value):
    """Return whether any value may be the next entry of a log."""
    if not isinstance(value, tuple) or len(value) != 2:
        return False
    event, changes = value
    if not is_event(web, plan, event) or not has_roads_alone(changes):
        return False
    after = behind(web, plan, paper, value)
    still = kept(after[0], after[1], paper)[0]
    return is_paper(after[0], after[1], after[2]) and not any([road in still for road in changes])


def has_roads_alone(value):
    """Return whether any value is a dict whose keys may be roads."""
    # This comes before the dict is joined with a paper, where True would pass for road 1.
    return isinstance(value, dict) and all([is_integer(key) for key in value])


def behind(web, plan, paper, entry):
    """Return the web, the plan and the paper behind an entry."""
    event, changes = entry
    web, plan = done(web, plan, event)
    whole = dict(paper)
    whole.update(changes)
    return (web, plan, whole)
