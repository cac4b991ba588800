"""Webs, lengths and odd values that the tests share."""
import itertools
import random

ROUGH = (3, ((0, 1, 1, 4), (1, 2, 2, 3), (0, 2, 3, 6)))
CLEAR = (3, ((0, 1, 1, 2), (1, 2, 1, 2), (0, 2, 5, 6)))
LINE = (4, ((0, 1, 1, 4), (1, 2, 2, 3), (2, 3, 3, 6)))
TWIN = (2, ((0, 1, 5, 5), (0, 1, 5, 5)))
ALONE = (1, ())
TIED = (2, ((0, 1, 5, 5), (0, 1, 4, 5)))
WIDE = (2, ((0, 1, 0, 9), (0, 1, 2, 5)))
PAIR = (2, (0, 1), (0,), (0,))

# Webs that the document's edges ask for, small enough to try all their lengths.
SMALL = [
    ROUGH, CLEAR, LINE, TWIN, ALONE,
    (2, ((0, 1, 0, 99),)),
    (2, ((0, 1, 0, 0), (0, 1, 0, 1), (0, 1, 1, 2))),
    (2, ((0, 1, 98, 99), (0, 1, 97, 98), (0, 1, 99, 99))),
    (2, ((0, 1, 0, 99), (0, 1, 99, 99))),
    (2, ((0, 1, 0, 0), (0, 1, 0, 99))),
    (3, ((0, 1, 2, 2), (0, 1, 1, 3), (1, 2, 2, 2), (0, 2, 2, 2))),
    (3, ((0, 2, 1, 1), (0, 1, 1, 1), (1, 2, 1, 1))),
    (3, ((0, 2, 1, 2), (0, 2, 2, 3), (0, 1, 0, 3), (1, 2, 2, 2))),
    (4, ((0, 3, 2, 4), (0, 1, 1, 2), (1, 3, 2, 2), (0, 2, 2, 3), (2, 3, 4, 4))),
    (4, ((2, 3, 0, 1), (1, 2, 0, 2), (0, 1, 1, 1), (0, 3, 1, 2), (1, 3, 0, 0))),
    (5, ((0, 1, 1, 2), (1, 2, 0, 1), (2, 3, 1, 1), (3, 4, 2, 2), (0, 4, 1, 2), (1, 4, 1, 1))),
    (4, ((0, 1, 3, 3), (0, 2, 3, 3), (0, 3, 3, 3), (1, 2, 3, 3), (1, 3, 3, 3), (2, 3, 3, 3))),
]

# Webs as large as point [4] allows, and beyond.
LARGE = [
    (6, ((0, 1, 0, 99), (0, 2, 3, 9), (1, 2, 4, 4), (2, 3, 5, 50), (3, 4, 7, 8),
         (3, 5, 1, 90), (4, 5, 6, 6), (0, 5, 10, 20), (1, 4, 2, 60), (0, 3, 12, 30))),
    (6, ((0, 5, 9, 9), (1, 5, 8, 9), (2, 5, 7, 9), (3, 5, 6, 9), (4, 5, 5, 9),
         (0, 1, 1, 9), (1, 2, 2, 9), (2, 3, 3, 9), (3, 4, 4, 9), (0, 4, 0, 9))),
    (5, ((0, 1, 1, 2), (0, 1, 2, 3), (1, 2, 1, 1), (1, 2, 1, 1), (2, 3, 0, 5), (2, 3, 5, 9),
         (3, 4, 1, 8), (3, 4, 2, 7), (0, 4, 3, 3), (0, 4, 2, 4))),
]
BEYOND = (7, ((0, 1, 1, 2), (1, 2, 1, 3), (2, 3, 2, 2), (3, 4, 1, 4), (4, 5, 2, 3), (5, 6, 1, 1),
              (0, 6, 2, 120), (1, 5, 2, 2), (2, 4, 100, 101), (0, 3, 1, 9), (0, 1, 2, 2)))

# Webs of four to six houses with many unsure pairs, too large to try all their lengths.
MANY = [
    (6, ((0, 1, 0, 20), (1, 2, 0, 20), (2, 3, 0, 20), (3, 4, 0, 20), (4, 5, 0, 20),
         (0, 5, 10, 99), (0, 2, 15, 99), (2, 4, 18, 99), (1, 5, 19, 99), (0, 3, 20, 99))),
    (6, ((0, 1, 0, 10), (0, 1, 5, 12), (1, 2, 1, 10), (1, 2, 5, 13), (2, 3, 2, 10), (2, 3, 5, 14),
         (3, 4, 3, 10), (3, 4, 5, 15), (4, 5, 4, 10), (4, 5, 5, 16))),
    (4, ((0, 1, 0, 9), (1, 2, 0, 9), (2, 3, 0, 9), (0, 3, 1, 10), (0, 2, 2, 11), (1, 3, 3, 12), (0, 1, 4, 13))),
]


def drawn_webs(many):
    """Return webs of two to five houses, the same ones each time, small enough to try all lengths."""
    draw = random.Random(7)
    found = []
    while len(found) < many:
        size = draw.randint(2, 5)
        rows = []
        for house in range(1, size):
            rows.append((draw.randrange(house), house) + drawn_bounds(draw))
        for _ in range(draw.randint(0, 4)):
            rows.append(tuple(sorted(draw.sample(range(size), 2))) + drawn_bounds(draw))
        draw.shuffle(rows)
        web = (size, tuple(rows))
        if len(all_lengths(web)) <= 200:
            found.append(web)
    return found


def drawn_bounds(draw):
    low = draw.randint(0, 4)
    return (low, low + draw.choice([0, 0, 1, 1, 2, 3]))


def drawn_lengths(web, many):
    """Return the lows, the highs, and some lengths between them, the same ones each time."""
    draw = random.Random(9)
    ends = [tuple(row[k] for row in web[1]) for k in (2, 3)]
    return ends + [tuple(draw.randint(*row[2:]) for row in web[1]) for _ in range(many)]


def all_lengths(web):
    """Return all lengths of a web."""
    return list(itertools.product(*[range(row[2], row[3] + 1) for row in web[1]]))


def deep(inner, kind):
    """Return a value nested twenty deep."""
    for _ in range(19):
        inner = kind(inner)
    return inner


def odd_values():
    """Return values of every kind that point [2] names; none is a web, lengths, a way or a tree."""
    numbers = [0, 1, -1, 7, 10 ** 60 - 1, 1 - 10 ** 60]
    words = ["", "0", "(0, 1)", "web"]
    lists = [[], [0], [0, 1], [[0, 1]], [None], list(range(20000)), deep([], lambda x: [x])]
    dicts = [{}, {0: 1}, {"size": 3}, {(0, 1): [2]}, {None: {}}, deep({}, lambda x: {0: x})]
    tuples = [(None,), ("0",), ("0", "1"), (0, None), (0, "1"), ((0, 1),), ([0], [1]), ({},), (True, False),
              (-1,), (-1, 0), (-1, -2, -3), (10 ** 59, 10 ** 60 - 1), (0, -(10 ** 59)),
              tuple(range(20000)), (0,) * 20000, (None,) * 20000, deep((), lambda x: (x,))]
    return numbers + [True, False, None] + words + lists + dicts + tuples


def misshapen(value):
    """Return what is like a value of tuples and integers, but for the kind or number of some part, at any depth."""
    found = [None, "", [value], {0: value}, (value,)]
    if isinstance(value, tuple):
        found += [list(value), dict(enumerate(value)), str(value)]
        for at, part in enumerate(value):
            found += [value[:at] + (worse,) + value[at + 1:] for worse in misshapen(part)]
    else:
        found += [value == 1, value != 0, str(value), (), []]
    return found


def near(value, many):
    """Return tuples that are like a tuple of roads or houses, with all small changes, and itself."""
    found = [value, value[::-1], value + value, tuple(sorted(value)), list(value), (list(value),), (value,)]
    found += list(itertools.permutations(value)) if len(value) <= 4 else []
    for at in range(len(value) + 1):
        found += [value[:at] + (more,) + value[at:] for more in [*range(-1, many + 1), True, False, None, "0", ()]]
    for at, part in enumerate(value):
        found += [value[:at] + value[at + 1:], value[:at] + (part, part) + value[at + 1:]]
        others = [*range(-1, many + 1), part - many, True, False, bool(part), None, str(part), [part], (part,)]
        found += [value[:at] + (other,) + value[at + 1:] for other in others]
    return found


def is_one_of(value, rows):
    """Return whether a value is one of some tuples of integers, also by the kinds of its parts."""
    return type(value) is tuple and all(type(part) is int for part in value) and value in rows


def changed(value):
    """Return what is like a value but for one change of some part, at any depth; some of it may be right, too."""
    found = [None, (), [], {}, "", (value,), [value]]
    if type(value) is int:
        found += [value - 1, value + 1, -value, value == 1, value != 0, str(value), 10 ** 59]
    elif type(value) is str:
        found += [value + "s", value.upper(), 0]
    elif type(value) is dict:
        found += changed_dicts(value)
    elif type(value) in (list, tuple):
        found += [tuple(value), list(value), dict(enumerate(value))]
        found += [type(value)(worse) for worse in changed_rows(list(value))]
    return found


def changed_rows(rows):
    """Return lists that are like a list but for one part that is put in, left out, exchanged or changed."""
    found = [rows[::-1]]
    for at, part in enumerate(rows):
        found += [rows[:at] + rows[at + 1:], rows[:at] + [part] + rows[at:], rows + [part], [part] + rows]
        found += [rows[:at] + rows[at + 1:at + 2] + [part] + rows[at + 2:]]
        found += [rows[:at] + [worse] + rows[at + 1:] for worse in changed(part)]
    return found + [rows[:at] + [more] + rows[at:] for at in range(len(rows) + 1) for more in (0, 1, True, None, ())]


def changed_dicts(value):
    """Return dicts that are like a dict but for one key that is put in, left out, exchanged or changed."""
    found = [list(value.items()), list(value), dict(list(value.items())[::-1])]
    for key, part in value.items():
        rest = {other: value[other] for other in value if other != key}
        found += [rest] + [{**rest, key: worse} for worse in changed(part)]
        found += [{**rest, worse: part} for worse in changed(key) if is_key(worse) and worse not in rest]
        found += [{other: value[key] if other == more else value[other] for other in value} for more in rest]
    parts = list(value.values())[:1] + [(0,), (), 1]
    return found + [{**value, more: part} for more in (0, 1, 2, 3, -1, False, True, None, "0", ())
                    for part in parts if more not in value]


def is_key(value):
    return type(value) not in (list, dict) and (type(value) is not tuple or all(map(is_key, value)))


def exact(value):
    """Return a text that is equal for equal values of the same kinds alone, however the keys of dicts stand."""
    if type(value) is dict:
        return "{" + ", ".join(sorted(exact(key) + ": " + exact(value[key]) for key in value)) + "}"
    if type(value) is list:
        return "[" + ", ".join(map(exact, value)) + "]"
    if type(value) is tuple:
        return "(" + ", ".join(map(exact, value)) + ")"
    return repr(value)
