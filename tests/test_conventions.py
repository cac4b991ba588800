import copy
import inspect
import itertools
import unittest

from roughroads import comparing, edits, errors, forecast, judging, measuring, needing, plans, regrets, shares
from roughroads import status, steps, totals, trees, using, ways, webs
from samples import ALONE, CLEAR, LARGE, LINE, ROUGH, SMALL, TWIN, odd_values

NOTHING = type(None)

# The interface, as the document lists it: of each file the functions, with their arguments.
INTERFACE = {
    webs: {"is_web": "value", "is_lengths": "web, value"},
    ways: {"detours": "web, road", "sides": "web, road", "crossing": "web, side"},
    trees: {"is_tree": "web, value", "trees": "web", "total": "lengths, tree", "least_trees": "web, lengths",
            "used": "web, lengths", "needed": "web, lengths"},
    using: {"find_used": "web, road", "find_unused": "web, road", "find_bar": "web, road", "find_hold": "web, road",
            "is_bar": "web, road, value", "is_hold": "web, road, value"},
    needing: {"find_needed": "web, road", "find_unneeded": "web, road", "find_spare": "web, road",
              "find_force": "web, road", "is_spare": "web, road, value", "is_force": "web, road, value"},
    status: {"used_status": "web", "needed_status": "web"},
    judging: {"exchanges": "web, tree", "find_least": "web, tree", "find_beaten": "web, tree",
              "find_sure_exchange": "web, tree", "tree_status": "web, tree"},
    totals: {"total_range": "web", "find_total": "web, number"},
    regrets: {"regret_range": "web, tree", "find_regret": "web, tree, number", "least_regret": "web"},
    comparing: {"difference_range": "web, other", "find_longer": "web, other"},
    measuring: {"with_length": "web, road, length", "settled_tree": "web", "settling": "web, road"},
    plans: {"is_plan": "web, value", "serves": "web, plan, lengths", "find_paper": "web, plan",
            "find_breach": "web, plan", "is_paper": "web, plan, value"},
    steps: {"taken": "plan, step", "options": "web, plan", "find_against": "web, plan, step",
            "openers": "web, plan, step", "clashes": "web, plan", "completed": "web, plan"},
    edits: {"with_bounds": "web, road, low, high", "with_road": "web, a, b, low, high", "kept": "web, plan, paper",
            "mended": "web, plan, paper"},
    shares: {"group_cost": "web, lengths, group", "fair_shares": "web, lengths", "is_shares": "web, lengths, value",
             "find_refusing": "web, lengths, shares"},
    forecast: {"is_enough": "web, lengths, roads", "fewest": "web, lengths", "unavoidable": "web, lengths"},
}
# The kinds of results, where the name does not tell: is_ returns a bool, find_ a tuple or None, others a list.
KINDS = {"total": (int,), "tree_status": (str,), "total_range": (tuple,), "regret_range": (tuple,),
         "least_regret": (tuple,), "difference_range": (tuple,), "with_length": (tuple,), "serves": (bool,),
         "settled_tree": (tuple, NOTHING), "find_paper": (dict, NOTHING), "taken": (tuple,), "completed": (tuple,),
         "with_bounds": (tuple,), "with_road": (tuple,), "kept": (tuple,), "mended": (dict, NOTHING),
         "group_cost": (int, NOTHING), "fair_shares": (tuple,)}
ERRORS = {"InvalidRoad": "road", "InvalidLength": "length", "InvalidBounds": "bounds", "Unsafe": "lengths"}


def pools(web):
    """Return for each name of an argument the values that the tests pass for it."""
    lengths = tuple(row[2] for row in web[1])
    tree = trees.trees(web)[-1]
    roads = tuple(range(len(web[1])))
    others = tuple(road for road in roads if road not in tree)
    return {"web": [web], "other": [web], "road": roads, "value": odd_values() + [web, lengths, tree, ((), ()), {}],
            "lengths": [lengths], "tree": [tree], "side": [(0,)], "number": [0, 3, sum(lengths)],
            "plan": [((), ()), (tree, ()), ((), roads[:1]), (roads[1:2], roads[2:]), (tree, others)],
            "step": [(word, road) for word in ("build", "drop") for road in roads],
            "paper": [{}, {road: (0,) for road in roads}, {road: [[0], {}] for road in roads}],
            "low": [0, 2], "high": [2, 99], "a": [0], "b": list(range(1, web[0])), "roads": [(), roads, tree],
            "group": [tuple(range(1, many)) for many in range(2, web[0] + 1)], "shares": [(0,) * web[0], lengths]}


def can_be(web, given):
    """Return whether arguments fit together, as the document asks."""
    if "step" in given and given["step"][1] in given["plan"][0] + given["plan"][1]:
        return False
    if "shares" in given and len(given["shares"]) != web[0]:
        return False
    return "length" not in given or given["length"] == web[1][given["road"]][2]


def calls(web):
    """Return calls of all functions of the interface with this web, each a function and its arguments."""
    given = pools(web)
    given["length"] = sorted(set(given["lengths"][0]))
    found = []
    for module, functions in INTERFACE.items():
        for name, words in functions.items():
            words = words.split(", ")
            for arguments in itertools.product(*[given[word] for word in words]):
                if can_be(web, dict(zip(words, arguments))):
                    found.append((getattr(module, name), list(arguments)))
    return found


def kinds_of(name):
    """Return the kinds of results that a function of the interface may return."""
    if name.startswith("is_"):
        return (bool,)
    return KINDS.get(name, (tuple, NOTHING) if name.startswith("find_") else (list,))


def is_plain(result):
    """Return whether a result is made of integers, strings, None, tuples, lists and dicts with integers as keys."""
    if type(result) is dict:
        return all(type(key) is int and is_plain(part) for key, part in result.items())
    if type(result) in (list, tuple):
        return all(is_plain(part) for part in result)
    return type(result) in (int, str, NOTHING)


def spoil(result):
    """Change a returned list or dict, and all within it."""
    if isinstance(result, (list, tuple)):
        for part in result:
            spoil(part)
    if isinstance(result, list):
        result.reverse()
        result.append("spoilt")
    if isinstance(result, dict):
        result.clear()


def fresh(value):
    """Return an equal value that shares no tuple with this one."""
    if isinstance(value, tuple):
        return tuple([fresh(part) for part in value])
    return copy.deepcopy(value)


class ConventionsTest(unittest.TestCase):
    def test_arguments_are_not_changed(self):
        for web in [ROUGH, TWIN, ALONE]:
            for function, arguments in calls(web):
                before = copy.deepcopy(arguments)
                function(*arguments)
                self.assertEqual(arguments, before, function)

    def test_equal_results_and_new_ones(self):
        for web in [ROUGH, CLEAR, LINE, TWIN, ALONE] + SMALL[6:]:
            every = [(function, arguments) for function, arguments in calls(web)
                     if not function.__name__.startswith("is_")]
            results = [function(*arguments) for function, arguments in every]
            before = copy.deepcopy(results)
            for result in results:
                spoil(result)
            again = [function(*[fresh(argument) for argument in arguments]) for function, arguments in every]
            self.assertEqual(again, before)

    def test_kinds_of_results(self):
        for web in [ROUGH, CLEAR, TWIN, ALONE, LARGE[0]]:
            for function, arguments in calls(web):
                result = function(*arguments)
                self.assertIn(type(result), kinds_of(function.__name__), function)
                self.assertTrue(type(result) is bool or is_plain(result), function)

    def test_interface(self):
        for module, functions in INTERFACE.items():
            for name, arguments in functions.items():
                function = getattr(module, name)
                self.assertTrue(inspect.isfunction(function), name)
                self.assertEqual(function.__module__, module.__name__)
                self.assertEqual(", ".join(inspect.signature(function).parameters), arguments, name)

    def test_errors_of_the_interface(self):
        for name, argument in ERRORS.items():
            self.assertEqual(getattr(errors, name).__module__, "roughroads.errors")
            self.assertEqual(list(inspect.signature(getattr(errors, name)).parameters), [argument])


if __name__ == "__main__":
    unittest.main()
