"""What a measurer and its record share: what is known, and which entries of a record are right behind that.

What is known is a tuple (web, told, rests): the present web, a dict from the told roads to their lengths, and a tuple
of the rests of all roads.
"""
from roughroads.edits import with_bounds
from roughroads.measuring import with_length
from roughroads.plain import is_integer
from roughroads.webs import are_within, is_length, is_road
from roughroads.witnesses import is_tight, roads_of


def known_at_first(web, prices):
    """Return what is known before the first entry."""
    return (web, {}, prices)


def is_untold(known, value):
    """Return whether any value is a road that was not told."""
    web, told, _ = known
    return is_road(web, value) and value not in told


def is_asked(known, road):
    """Return whether a road is asked."""
    return known[2][road] == 0


def least_rest(known, witness):
    """Return the least rest of the roads of a witness."""
    return min([known[2][road] for road in roads_of(witness)])


def is_entry(known, value):
    """Return whether any value is right as the next entry of a record."""
    if not isinstance(value, tuple) or not value:
        return False
    word, given = value[0], value[1:]
    if word == "round":
        return len(given) == 2 and is_round(known, given[0], given[1])
    if word == "tell":
        return len(given) == 2 and is_untold(known, given[0]) and is_length(known[0], given[0], given[1])
    return (word == "narrow" and len(given) == 3 and is_untold(known, given[0])
            and are_within(known[0], given[0], given[1], given[2]))


def is_round(known, witness, amount):
    """Return whether any two values are the witness and the amount of a round."""
    if not is_tight(known[0], witness) or any([is_asked(known, road) for road in roads_of(witness)]):
        return False
    return is_integer(amount) and amount == least_rest(known, witness)


def known_behind(known, entry):
    """Return what is known behind an entry."""
    web, told, rests = known
    if entry[0] == "round":
        return (web, told, lowered(rests, entry[1], entry[2]))
    if entry[0] == "narrow":
        return (with_bounds(web, entry[1], entry[2], entry[3]), told, rests)
    more = dict(told)
    more[entry[1]] = entry[2]
    return (with_length(web, entry[1], entry[2]), more, rests)


def lowered(rests, witness, amount):
    """Return the rests behind a round."""
    roads = roads_of(witness)
    return tuple([rest - amount if road in roads else rest for road, rest in enumerate(rests)])
