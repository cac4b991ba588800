"""What all stages ask of plain values: integers, tuples of them, copies, the first of some."""


def is_integer(value):
    """Return whether any value is an integer."""
    # Python counts True and False among the ints, the document does not.
    return isinstance(value, int) and not isinstance(value, bool)


def is_integers(value):
    """Return whether any value is a tuple of integers."""
    return isinstance(value, tuple) and all([is_integer(item) for item in value])


def is_ascending(numbers):
    """Return whether the numbers of a tuple ascend, none twice."""
    return all([one < other for one, other in zip(numbers, numbers[1:])])


def copied(value):
    """Return an equal value in which every list and dict is new."""
    if isinstance(value, list):
        return [copied(item) for item in value]
    if isinstance(value, tuple):
        return tuple([copied(item) for item in value])
    if isinstance(value, dict):
        return {key: copied(value[key]) for key in value}
    return value


def first_of(rows):
    """Return the first of some rows, or None if there are none."""
    return rows[0] if rows else None


def how_often(always, never):
    """Return the word of Stage 6 for what holds for all lengths, for none, or for some only."""
    if always:
        return "always"
    return "never" if never else "sometimes"
