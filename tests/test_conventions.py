import copy
import inspect
import itertools
import unittest

from roughroads import cheapest, comparing, edits, errors, firsttrees, fixing, forecast, judging, logs, measurers
from roughroads import measuring, needing, office, opponents, plans, records, regrets, shares, status, steps, totals
from roughroads import trees, using, ways, webs, witnesses
from samples import ALONE, CLEAR, LARGE, LINE, PAIR, ROUGH, SMALL, TWIN, exact, odd_values

NOTHING = type(None)

# The interface, as the document lists it: of each file the functions, with their arguments.
INTERFACE = {
    webs: {"is_web": "value", "is_lengths": "web, value"},
    ways: {"detours": "web, road", "sides": "web, road", "crossing": "web, side"},
    trees: {"is_tree": "web, value", "trees": "web", "total": "lengths, tree", "least_trees": "web, lengths",
            "used": "web, lengths", "needed": "web, lengths"},
    using: {"find_used": "web, road", "find_unused": "web, road", "find_bar": "web, road", "find_hold": "web, road",
            "is_bar": "web, road, value", "is_hold": "web, road, value"},
    needing: {"find_needed": "web, road", "find_unneeded": "web, road", "find_spare": "web, road",
              "find_force": "web, road", "is_spare": "web, road, value", "is_force": "web, road, value"},
    status: {"used_status": "web", "needed_status": "web"},
    judging: {"exchanges": "web, tree", "find_least": "web, tree", "find_beaten": "web, tree",
              "find_sure_exchange": "web, tree", "tree_status": "web, tree"},
    totals: {"total_range": "web", "find_total": "web, number"},
    regrets: {"regret_range": "web, tree", "find_regret": "web, tree, number", "least_regret": "web"},
    comparing: {"difference_range": "web, other", "find_longer": "web, other"},
    measuring: {"with_length": "web, road, length", "settled_tree": "web", "settling": "web, road"},
    plans: {"is_plan": "web, value", "serves": "web, plan, lengths", "find_paper": "web, plan",
            "find_breach": "web, plan", "is_paper": "web, plan, value"},
    steps: {"taken": "plan, step", "options": "web, plan", "find_against": "web, plan, step",
            "openers": "web, plan, step", "clashes": "web, plan", "completed": "web, plan"},
    edits: {"with_bounds": "web, road, low, high", "with_road": "web, a, b, low, high", "kept": "web, plan, paper",
            "mended": "web, plan, paper"},
    shares: {"group_cost": "web, lengths, group", "fair_shares": "web, lengths", "is_shares": "web, lengths, value",
             "find_refusing": "web, lengths, shares"},
    forecast: {"is_enough": "web, lengths, roads", "fewest": "web, lengths", "unavoidable": "web, lengths"},
    logs: {"log": "office", "is_log": "web, value", "replayed": "web, log"},
    firsttrees: {"first_tree": "web, lengths", "find_fixed": "web", "is_fixed_paper": "web, value"},
    witnesses: {"find_witness": "web", "is_witness": "web, value", "is_tight": "web, value",
                "unlike_lengths": "web, witness", "find_must": "web, road", "find_without": "web, road"},
    fixing: {"fixes": "web, lengths, roads", "compulsory": "web, lengths", "unsure_pairs": "web, lengths"},
    cheapest: {"is_prices": "web, value", "cheapest": "web, lengths, prices",
               "is_cheapest": "web, lengths, prices, value"},
    records: {"first_wrong": "web, prices, value", "is_record": "web, prices, value",
              "resumed": "web, prices, record", "is_ledger": "web, now, prices, value"},
}
# The classes, each with the arguments that make it, and its methods with theirs.
CLASSES = {
    (office, "Office"): ("web", {
        "measure": "road, length", "build": "road", "drop": "road", "correct": "road, low, high",
        "add": "a, b, low, high", "undo": "", "redo": "", "web": "", "plan": "", "paper": "", "options": "",
        "pending": "", "is_done": "", "__eq__": "other"}),
    (measurers, "Measurer"): ("web, prices", {
        "tell": "road, length", "narrow": "road, low, high", "undo": "", "web": "", "told": "", "prices": "",
        "asked": "", "wanted": "", "tree": "", "owed": "", "paid": "", "extra": "", "ledger": "", "record": "",
        "__eq__": "other"}),
    (opponents, "Opponent"): ("pairs", {"web": "", "answer": "road", "answered": "", "best": "", "__eq__": "other"}),
}
# The kinds of results, where the name does not tell: is_ returns a bool, find_ a tuple or None, others a list.
KINDS = {"total": (int,), "tree_status": (str,), "total_range": (tuple,), "regret_range": (tuple,),
         "least_regret": (tuple,), "difference_range": (tuple,), "with_length": (tuple,), "serves": (bool,),
         "settled_tree": (tuple, NOTHING), "find_paper": (dict, NOTHING), "taken": (tuple,), "completed": (tuple,),
         "with_bounds": (tuple,), "with_road": (tuple,), "kept": (tuple,), "mended": (dict, NOTHING),
         "group_cost": (int, NOTHING), "fair_shares": (tuple,), "replayed": (tuple,), "first_tree": (tuple,),
         "unlike_lengths": (tuple,), "compulsory": (dict,), "cheapest": (tuple,), "first_wrong": (int, NOTHING),
         "fixes": (bool,)}
ERRORS = {"InvalidRoad": "road", "InvalidLength": "length", "InvalidBounds": "bounds", "Unsafe": "lengths"}


def some_office(web):
    """Return an office with all options of the web at first taken that can be."""
    made = office.Office(web)
    while made.options():
        getattr(made, made.options()[-1][0])(made.options()[-1][1])
    return made


def some_measurer(web, prices):
    """Return a measurer that was told a wanted road."""
    made = measurers.Measurer(web, prices)
    for road in made.wanted()[:1]:
        made.tell(road, web[1][road][2])
    return made


def pools(web):
    """Return for each name of an argument the values that the tests pass for it."""
    given = pools_of_webs(web)
    made = some_office(web)
    prices = tuple(range(1, len(web[1]) + 1))
    measurer = some_measurer(web, prices)
    witness = witnesses.find_witness(web)
    given |= {"office": [made], "log": [[], logs.log(made)], "prices": [prices], "now": [web, measurer.web()],
              "witness": [witness] if witness is not None else [], "record": [[], measurer.record()]}
    given["value"] += [logs.log(made), measurer.record(), measurer.ledger(), ((0,), {(0, 2): 1}), ((0, 1), {2: (0, 1)}),
                       PAIR, prices]
    return given


def pools_of_webs(web):
    """Return for each name of an argument of the first stages the values that the tests pass for it."""
    lengths = tuple(row[2] for row in web[1])
    tree = trees.trees(web)[-1]
    roads = tuple(range(len(web[1])))
    others = tuple(road for road in roads if road not in tree)
    return {"web": [web], "other": [web], "road": roads, "value": odd_values() + [web, lengths, tree, ((), ()), {}],
            "lengths": [lengths], "tree": [tree], "side": [(0,)], "number": [0, 3, sum(lengths)],
            "plan": [((), ()), (tree, ()), ((), roads[:1]), (roads[1:2], roads[2:]), (tree, others)],
            "step": [(word, road) for word in ("build", "drop") for road in roads],
            "paper": [{}, {road: (0,) for road in roads}, {road: [[0], {}] for road in roads}],
            "low": [0, 2], "high": [2, 99], "a": [0], "b": list(range(1, web[0])), "roads": [(), roads, tree],
            "group": [tuple(range(1, many)) for many in range(2, web[0] + 1)], "shares": [(0,) * web[0], lengths]}


def can_be(name, web, given):
    """Return whether arguments fit together, as the document asks."""
    if name == "first_wrong" and type(given["value"]) is not list:
        return False
    if "step" in given and given["step"][1] in given["plan"][0] + given["plan"][1]:
        return False
    if "shares" in given and len(given["shares"]) != web[0]:
        return False
    return "length" not in given or given["length"] == web[1][given["road"]][2]


def calls(web):
    """Return calls of all functions of the interface with this web, each a function and its arguments."""
    given = pools(web)
    given["length"] = sorted(set(given["lengths"][0]))
    found = []
    for module, functions in INTERFACE.items():
        for name, words in functions.items():
            words = words.split(", ")
            for arguments in itertools.product(*[given[word] for word in words]):
                if can_be(name, web, dict(zip(words, arguments))):
                    found.append((getattr(module, name), list(arguments)))
    return found


def kinds_of(name):
    """Return the kinds of results that a function of the interface may return."""
    if name.startswith("is_"):
        return (bool,)
    if name == "resumed":
        return (measurers.Measurer,)
    return KINDS.get(name, (tuple, NOTHING) if name.startswith("find_") else (list,))


def is_plain(result):
    """Return whether a result is made of integers, strings, None, tuples, lists and dicts with plain keys."""
    if type(result) is dict:
        return all(type(key) in (int, tuple) and is_plain(key) and is_plain(part) for key, part in result.items())
    if type(result) in (list, tuple):
        return all(is_plain(part) for part in result)
    return type(result) in (int, str, NOTHING)


def spoil(result):
    """Change a returned list or dict, and all within it."""
    if isinstance(result, (list, tuple)):
        for part in result:
            spoil(part)
    if isinstance(result, list):
        result.reverse()
        result.append("spoilt")
    if isinstance(result, dict):
        result.clear()


def fresh(value):
    """Return an equal value that shares no tuple with this one."""
    if isinstance(value, tuple):
        return tuple([fresh(part) for part in value])
    return copy.deepcopy(value)


class ConventionsTest(unittest.TestCase):
    def test_arguments_are_not_changed(self):
        for web in [ROUGH, TWIN, ALONE]:
            for function, arguments in calls(web):
                before = copy.deepcopy(arguments)
                function(*arguments)
                self.assertEqual(arguments, before, function)

    def test_equal_results_and_new_ones(self):
        for web in [ROUGH, CLEAR, LINE, TWIN, ALONE] + SMALL[6:]:
            every = [(function, arguments) for function, arguments in calls(web)
                     if not function.__name__.startswith("is_")]
            results = [function(*arguments) for function, arguments in every]
            before = copy.deepcopy(results)
            for result in results:
                spoil(result)
            again = [function(*[fresh(argument) for argument in arguments]) for function, arguments in every]
            self.assertEqual(again, before)

    def test_kinds_of_results(self):
        for web in [ROUGH, CLEAR, TWIN, ALONE, LARGE[0]]:
            for function, arguments in calls(web):
                result = function(*arguments)
                self.assertIn(type(result), kinds_of(function.__name__), function)
                self.assertTrue(type(result) in (bool, measurers.Measurer) or is_plain(result), function)

    def test_interface(self):
        for module, functions in INTERFACE.items():
            for name, arguments in functions.items():
                function = getattr(module, name)
                self.assertTrue(inspect.isfunction(function), name)
                self.assertEqual(function.__module__, module.__name__)
                self.assertEqual(", ".join(inspect.signature(function).parameters), arguments, name)

    def test_classes_of_the_interface(self):
        for (module, name), (arguments, methods) in CLASSES.items():
            kind = getattr(module, name)
            self.assertTrue(inspect.isclass(kind))
            self.assertEqual(kind.__module__, module.__name__)
            self.assertEqual(", ".join(inspect.signature(kind).parameters), arguments, name)
            for method, words in methods.items():
                self.assertIn(method, vars(kind), name)
                self.assertTrue(inspect.isfunction(vars(kind)[method]), method)
                found = list(inspect.signature(vars(kind)[method]).parameters)[1:]
                if method != "__eq__":
                    self.assertEqual(", ".join(found), words, (name, method))
                self.assertEqual(len(found), len(words.split(", ")) if words else 0, (name, method))

    def test_kinds_of_what_objects_tell(self):
        for web in [ROUGH, CLEAR, TWIN, ALONE, LARGE[0]]:
            made = some_office(web)
            kinds = [(made.web, tuple), (made.plan, tuple), (made.paper, dict), (made.options, list),
                     (made.pending, dict), (made.is_done, bool)]
            prices = tuple(range(1, len(web[1]) + 1))
            measurer = some_measurer(web, prices)
            kinds += [(measurer.web, tuple), (measurer.told, dict), (measurer.prices, tuple), (measurer.asked, tuple),
                      (measurer.wanted, tuple), (measurer.owed, int), (measurer.paid, int), (measurer.extra, int),
                      (measurer.ledger, list), (measurer.record, list)]
            opponent = opponents.Opponent(2)
            kinds += [(opponent.web, tuple), (opponent.answered, dict)]
            for method, kind in kinds:
                self.assertIs(type(method()), kind, method)
                self.assertTrue(kind is bool or is_plain(method()), method)
                before = exact(method())
                spoil(method())
                self.assertEqual(exact(method()), before, method)

    def test_errors_of_the_interface(self):
        for name, argument in ERRORS.items():
            self.assertEqual(getattr(errors, name).__module__, "roughroads.errors")
            self.assertEqual(list(inspect.signature(getattr(errors, name)).parameters), [argument])


if __name__ == "__main__":
    unittest.main()
