"""Tests over the whole program: point 1, and the names and arguments of the interface."""

import ast
import importlib
import inspect
import pathlib
import unittest
from copy import deepcopy

import ringland
from helper import CELLS, SPOTS, Draw
from ringland.deeds import apart, area, joined, pieces, shared, taken
from ringland.errors import BadRings, BadSpot, ShapeError
from ringland.outlines import outline, plain
from ringland.rings import holds, inside, need
from ringland.spots import MOST, all_spots, cell_of

PACKAGE = pathlib.Path(ringland.__file__).parent

# The functions of the interface, by the file under which it lists them, with the names of their arguments.
INTERFACE = {
    "spots": {"all_spots": [], "cell_of": ["spot"]},
    "rings": {"need": ["rings"], "holds": ["rings", "spot"], "inside": ["rings"]},
    "outlines": {"outline": ["spots"], "plain": ["rings"]},
    "deeds": {
        "joined": ["one", "other"], "shared": ["one", "other"], "taken": ["one", "other"], "apart": ["one", "other"],
        "area": ["rings"], "pieces": ["rings"],
    },
}

HOLED = [[(0, 0), (12, 0), (12, 12), (0, 12)], [(4, 4), (4, 8), (8, 8), (8, 4)]]
CROSSED = [[(0, 0), (4, 4), (4, 0), (0, 4)], [(2, 2), (10, 10), (6, 6)]]
SMALL = [[(2, 2), (4, 0), (4, 4)]]

WRONG = [[(0, 0), (4, 0), (4, 4)], [(0, 0), (4, 4), [0, 4]]]
REFUSED_SPOTS = [(2, 1), [2, 1]]


def asked():
    """Functions, each with what it is asked; drawn anew, so that nothing is in common with what was asked before."""
    draw = Draw(51)
    lists = [[], deepcopy(HOLED), deepcopy(CROSSED), deepcopy(SMALL), draw.rings(), draw.rings(), draw.rings()]
    asks = [(all_spots,)] + [(cell_of, spot) for spot in CELLS]
    for rings in lists:
        asks.extend((ask, deepcopy(rings)) for ask in (need, inside, plain, area, pieces))
        asks.append((holds, deepcopy(rings), (2, 1)))
        for other in lists:
            asks.extend((ask, deepcopy(rings), deepcopy(other)) for ask in (joined, shared, taken, apart))
        for ask in (joined, shared, taken, apart):
            both = deepcopy(rings)
            asks.append((ask, both, both))
    asks.extend((outline, draw.shuffled(draw.spots(eighths) * 2)) for eighths in range(9))
    return asks


def lists_in(thing):
    """All lists within the thing, itself too, by what tells them from one another."""
    if not isinstance(thing, (list, tuple)):
        return []
    found = [id(thing)] if isinstance(thing, list) else []
    return found + [place for part in thing for place in lists_in(part)]


def spoil(thing):
    """Change each list within the thing."""
    if isinstance(thing, list):
        for part in thing:
            spoil(part)
        thing.reverse()
        thing.append((0, 0))
        thing[0] = None
        thing.extend([[], (4, 4)])


class WholeTest(unittest.TestCase):
    def test_nothing_handed_in_is_changed(self):
        for ask, *given in asked():
            before = deepcopy(given)
            ask(*given)
            self.assertEqual(given, before, ask.__name__)

    def test_nothing_refused_is_changed(self):
        for ask, error, *given in [
            (need, BadRings, WRONG), (inside, BadRings, WRONG), (plain, BadRings, WRONG), (area, BadRings, WRONG),
            (pieces, BadRings, WRONG), (holds, BadRings, WRONG, [2, 1]), (holds, BadSpot, HOLED, [2, 1]),
            (outline, BadSpot, REFUSED_SPOTS), (cell_of, BadSpot, [2, 1]),
            *[(deed, BadRings, HOLED, WRONG) for deed in (joined, shared, taken, apart)],
            *[(deed, BadRings, WRONG, HOLED) for deed in (joined, shared, taken, apart)],
        ]:
            before = deepcopy(given)
            self.assertRaises(error, ask, *given)
            self.assertEqual(given, before, ask.__name__)

    def test_what_was_told_may_be_changed_and_is_told_again_alike(self):
        for ask, *given in asked():
            result = ask(*given)
            before, given_before = deepcopy(result), deepcopy(given)
            spoil(result)
            self.assertEqual(given, given_before, ask.__name__)
            self.assertEqual(ask(*given), before, ask.__name__)

    def test_all_that_was_told_may_be_changed_and_all_is_told_again_alike(self):
        first = [ask(*given) for ask, *given in asked()]
        before = deepcopy(first)
        for result in first:
            spoil(result)
        self.assertEqual([ask(*given) for ask, *given in asked()], before)

    def test_what_was_told_stays_though_what_was_handed_in_is_changed(self):
        for ask, *given in asked():
            result = ask(*given)
            before = deepcopy(result)
            for thing in given:
                spoil(thing)
            self.assertEqual(result, before, ask.__name__)

    def test_told_lists_are_new_ones(self):
        for ask, *given in asked():
            results = [ask(*given), ask(*given)]
            found = lists_in(results)
            self.assertEqual(len(found), len(set(found)), ask.__name__)
            self.assertFalse(set(found) & set(lists_in(given)), ask.__name__)

    def test_outline_handed_in_is_told_by_new_lists(self):
        rings = plain(HOLED)
        again = plain(rings)
        self.assertEqual(again, rings)
        again[0].clear()
        again.clear()
        self.assertEqual(rings, HOLED)

    def test_each_refusal_is_a_shape_error_and_spoils_nothing(self):
        for _ in range(3):
            self.assertRaises(ShapeError, need, WRONG)
            self.assertRaises(ShapeError, outline, REFUSED_SPOTS)
            self.assertRaises(ShapeError, joined, HOLED, WRONG)
            self.assertEqual(plain(HOLED), HOLED)
            self.assertEqual(all_spots(), SPOTS)

    def test_places_told_are_pairs_of_numbers(self):
        for ask, *given in asked():
            result = ask(*given)
            if isinstance(result, list):
                self.places(result)

    def places(self, thing):
        """Hold that the lists within the thing, however deep, end in pairs of plain numbers."""
        if type(thing) is list:
            for part in thing:
                self.places(part)
        else:
            self.assertIs(type(thing), tuple)
            self.assertEqual([type(number) for number in thing], [int, int])
            self.assertTrue(0 <= min(thing) and max(thing) <= MOST)


class InterfaceTest(unittest.TestCase):
    def test_functions_stand_in_their_files_with_their_arguments(self):
        for file, functions in INTERFACE.items():
            module = importlib.import_module("ringland." + file)
            for name, arguments in functions.items():
                function = getattr(module, name)
                self.assertTrue(inspect.isfunction(function))
                self.assertEqual(function.__module__, module.__name__)
                self.assertEqual(list(inspect.signature(function).parameters), arguments)

    def test_arguments_may_be_named(self):
        self.assertEqual(joined(other=SMALL, one=[]), SMALL)
        self.assertEqual(taken(other=SMALL, one=[]), [])
        self.assertIs(holds(spot=(3, 2), rings=SMALL), True)
        self.assertEqual(outline(spots=[(3, 2)]), SMALL)


class NothingElseTest(unittest.TestCase):
    """Point 1: no clock, no chance, no files; so nothing from outside the package is brought in."""

    def test_package_imports_only_from_itself(self):
        for path in sorted(PACKAGE.glob("*.py")):
            for node in ast.walk(ast.parse(path.read_text())):
                self.assertNotIsInstance(node, ast.Import)
                if isinstance(node, ast.ImportFrom):
                    self.assertEqual(node.module.split(".")[0], "ringland")

    def test_package_opens_and_prints_nothing(self):
        for path in sorted(PACKAGE.glob("*.py")):
            names = {node.id for node in ast.walk(ast.parse(path.read_text())) if isinstance(node, ast.Name)}
            self.assertFalse(names & {"open", "print", "input", "exec", "eval", "globals", "__import__"})


if __name__ == "__main__":
    unittest.main()
