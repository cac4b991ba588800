import copy
import inspect
import unittest

from roughroads import errors, judging, needing, status, trees, using, ways, webs
from samples import ALONE, CLEAR, LARGE, LINE, ROUGH, SMALL, TWIN, odd_values

# The interface, as the document lists it: of each file the functions, with their arguments.
INTERFACE = {
    webs: {"is_web": "value", "is_lengths": "web, value"},
    ways: {"detours": "web, road", "sides": "web, road", "crossing": "web, side"},
    trees: {"is_tree": "web, value", "trees": "web", "total": "lengths, tree", "least_trees": "web, lengths",
            "used": "web, lengths", "needed": "web, lengths"},
    using: {"find_used": "web, road", "find_unused": "web, road", "find_bar": "web, road", "find_hold": "web, road",
            "is_bar": "web, road, value", "is_hold": "web, road, value"},
    needing: {"find_needed": "web, road", "find_unneeded": "web, road", "find_spare": "web, road",
              "find_force": "web, road", "is_spare": "web, road, value", "is_force": "web, road, value"},
    status: {"used_status": "web", "needed_status": "web"},
    judging: {"exchanges": "web, tree", "find_least": "web, tree", "find_beaten": "web, tree",
              "find_sure_exchange": "web, tree", "tree_status": "web, tree"},
}
ERRORS = {"InvalidRoad": "road", "InvalidLength": "length", "InvalidBounds": "bounds", "Unsafe": "lengths"}


def calls(web):
    """Return calls of all functions of the interface with this web, each a function and its arguments."""
    lengths = tuple(row[2] for row in web[1])
    tree = trees.trees(web)[-1]
    roads = range(len(web[1]))
    found = []
    for module, functions in INTERFACE.items():
        for name, arguments in functions.items():
            for road in [*roads] if "road" in arguments else [None]:
                for value in (odd_values() + [web, lengths, tree] if "value" in arguments else [None]):
                    given = {"web": web, "road": road, "value": value, "lengths": lengths, "tree": tree, "side": (0,)}
                    found.append((getattr(module, name), [given[word] for word in arguments.split(", ")]))
    return found


def spoil(result):
    """Change a returned list or dict, and all within it."""
    if isinstance(result, (list, tuple)):
        for part in result:
            spoil(part)
    if isinstance(result, list):
        result.reverse()
        result.append("spoilt")
    if isinstance(result, dict):
        result.clear()


def fresh(value):
    """Return an equal value that shares no tuple with this one."""
    if isinstance(value, tuple):
        return tuple([fresh(part) for part in value])
    return copy.deepcopy(value)


class ConventionsTest(unittest.TestCase):
    def test_arguments_are_not_changed(self):
        for web in [ROUGH, TWIN, ALONE]:
            for function, arguments in calls(web):
                before = copy.deepcopy(arguments)
                function(*arguments)
                self.assertEqual(arguments, before, function)

    def test_equal_results_and_new_ones(self):
        for web in [ROUGH, CLEAR, LINE, TWIN, ALONE] + SMALL[6:]:
            every = [(function, arguments) for function, arguments in calls(web) if len(arguments) < 3]
            results = [function(*arguments) for function, arguments in every]
            before = copy.deepcopy(results)
            for result in results:
                spoil(result)
            again = [function(*[fresh(argument) for argument in arguments]) for function, arguments in every]
            self.assertEqual(again, before)

    def test_kinds_of_results(self):
        lists = ["detours", "sides", "crossing", "trees", "least_trees", "used", "needed", "exchanges",
                 "used_status", "needed_status"]
        for web in [ROUGH, CLEAR, TWIN, ALONE, LARGE[0]]:
            for function, arguments in calls(web):
                name, result = function.__name__, function(*arguments)
                if name.startswith("is_"):
                    self.assertIs(type(result), bool, name)
                elif name.startswith("find_"):
                    self.assertIn(type(result), (tuple, type(None)), name)
                else:
                    kind = list if name in lists else {"total": int, "tree_status": str}[name]
                    self.assertIs(type(result), kind, name)
                for part in result if type(result) in (list, tuple) else []:
                    self.assertIn(type(part), (int, str, tuple), name)

    def test_interface(self):
        for module, functions in INTERFACE.items():
            for name, arguments in functions.items():
                function = getattr(module, name)
                self.assertTrue(inspect.isfunction(function), name)
                self.assertEqual(function.__module__, module.__name__)
                self.assertEqual(", ".join(inspect.signature(function).parameters), arguments, name)

    def test_errors_of_the_interface(self):
        for name, argument in ERRORS.items():
            self.assertEqual(getattr(errors, name).__module__, "roughroads.errors")
            self.assertEqual(list(inspect.signature(getattr(errors, name)).parameters), [argument])


if __name__ == "__main__":
    unittest.main()
