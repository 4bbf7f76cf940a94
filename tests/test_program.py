"""The whole program: the interface, [0.4], [0.5], [0.7] and [0.8] over all modules."""

import ast
import importlib
import inspect
import unittest
from copy import deepcopy
from pathlib import Path

from stepdown import errors
from stepdown.atonce import at_once, loop_at, rounds
from stepdown.cells import Cells, mirrored_cells, together
from stepdown.cellstair import CellStair
from stepdown.chain import Chain, chains, kind, shown
from stepdown.corner import fill, is_filling, ways
from stepdown.counters import Counters, stack_of, value
from stepdown.counterstair import CounterStair
from stepdown.primes import exponents, primes, product
from stepdown.ratios import Ratios, reduced
from stepdown.ratiostair import RatioStair
from stepdown.ring import Ring
from stepdown.ringstair import RingStair, code
from stepdown.rules import Rules
from stepdown.rulestair import RuleStair
from stepdown.stacks import Stacks
from stepdown.stackstair import StackStair
from stepdown.strip import Strip
from stepdown.tag import Tag
from stepdown.tagstair import TagStair, marks_of, number_of
from stepdown.tape import Tape, mirrored, tape_of, trimmed
from stepdown.tiles import Tiles, next_floor, rows_on
from stepdown.tilestair import TileStair, read_off
from stepdown.twomarks import TwoMarks, block, mark_of, width
from stepdown.upstair import UpStair
from stepdown.written import machine_of, text_of
from tests.samples import ADD_ONE, ADD_ONE_ROWS

PACKAGE = Path(__file__).resolve().parent.parent / "stepdown"
MACHINE = "stopped(configuration) step(configuration) run(configuration, steps)"
CHECKED = MACHINE + " is_configuration(value)"
STAIR = "down(configuration) up(configuration) pace(configuration) ending(configuration)"
# The parameters of the stairs that are told without them stand in [3.9] and [4.9] as a line.
LINE_STAIR = "down(configuration) up(line) pace(configuration) ending(configuration)"

# What the interface lists: functions, and classes with their methods (without `self`).
INTERFACE = {
    "errors": {name: None for name in (
        "StairError", "BadMachine", "BadMark", "BadText", "BadCells", "BadTiles", "TooLarge", "ManyRows", "BadPlace",
        "TooMany", "BadChain",
    )},
    "tape": {
        "Tape": "__init__(marks, states, rows) row(state, mark) table() begin(word) " + CHECKED,
        "trimmed": "(marks)", "tape_of": "(configuration)", "mirrored": "(machine)",
    },
    "written": {"text_of": "(machine)", "machine_of": "(text)"},
    "twomarks": {
        "TwoMarks": "__init__(machine) " + STAIR,
        "width": "(marks)", "block": "(marks, mark)", "mark_of": "(marks, bits)",
    },
    "cells": {
        "Cells": "__init__(letters, changes) change(left, middle, right) changes() rows(configuration, steps) " + CHECKED,
        "mirrored_cells": "(machine)", "together": "(first, second)",
    },
    "cellstair": {"CellStair": "__init__(machine) letter(mark, state) " + LINE_STAIR},
    "tiles": {
        "Tiles": "__init__(tiles)", "rows_on": "(tiles, floor, left, right)", "next_floor": "(row)",
    },
    "corner": {
        "ways": "(tiles, floor, left, right, height)", "fill": "(tiles, floor, left, right, height)",
        "is_filling": "(tiles, floor, left, right, rows)",
    },
    "strip": {"Strip": "__init__(tiles) " + CHECKED},
    "tilestair": {
        "TileStair": "__init__(machine) floor(configuration, margin) " + LINE_STAIR, "read_off": "(stair, rows)",
    },
    "stacks": {"Stacks": "__init__(rows) row(state) table() " + MACHINE},
    "stackstair": {"StackStair": "__init__(upper) " + STAIR},
    "counters": {
        "Counters": "__init__(count, rows) row(state) table() " + MACHINE, "value": "(stack)", "stack_of": "(number)",
    },
    "counterstair": {"CounterStair": "__init__(upper) " + STAIR},
    "atonce": {
        "loop_at": "(machine, state)", "rounds": "(machine, configuration)",
        "at_once": "(machine, configuration, steps)",
    },
    "primes": {"primes": "(count)", "exponents": "(n, basis)", "product": "(basis, powers)"},
    "ratios": {
        "Ratios": "__init__(fractions) table() used(configuration) " + MACHINE, "reduced": "(machine)",
    },
    "ratiostair": {"RatioStair": "__init__(upper) size(counters, state) " + STAIR},
    "upstair": {"UpStair": "__init__(upper) " + STAIR},
    "tag": {"Tag": "__init__(letters, words) word(letter) table() " + CHECKED},
    "tagstair": {"TagStair": "__init__(machine) " + STAIR, "number_of": "(marks)", "marks_of": "(number)"},
    "ring": {"Ring": "__init__(words) table() " + CHECKED},
    "ringstair": {"RingStair": "__init__(machine) " + STAIR, "code": "(machine, letter)"},
    "rules": {
        "Rules": "__init__(rules) table() places(configuration) applied(configuration, rule, at) "
                 "reached(configuration, steps) " + MACHINE,
    },
    "rulestair": {"RuleStair": "__init__(machine) " + STAIR},
    "chain": {
        "Chain": "__init__(machine, names) trail(configuration, steps) " + STAIR,
        "kind": "(machine)", "chains": "(marks, most)", "shown": "(chain, configuration, steps)",
    },
}
BLANK = [(0, 0, 0, 0), (0, 2, 0, 1)]


def machines():
    """A machine of each kind with configurations: some that go on, and some in which it has stopped."""
    stair = TileStair(ADD_ONE)
    return [
        (ADD_ONE, [(0, (), 1, (1,)), (0, (0, 1), 0, ())], [(1, (), 0, ())]),
        (Cells(2, {(0, 1, 0): 0}), [(1,), (1, 1, 0, 1)], [(), (1, 1)]),
        (stair.lower, [stair.down((0, (), 1, (1,)))], [stair.down((1, (), 1, (1,)))]),
        (Stacks([("pop", 0, 0, 1), ("push", 1, 1, 0), None]), [(0, (1, 1), ()), (1, (), ())], [(2, (1,), ())]),
        (Counters(2, [("dec", 0, 1, 2), ("inc", 1, 0), None]), [(0, (2, 1)), (1, (0, 0))], [(2, (0, 3))]),
        (Ratios([(13, 10), (19, 5), (5, 7)]), [(60,), (7,)], [(1,), (11,)]),
        (Tag(3, [(1, 2), (0,), None]), [(0, 0), (1,), (0, 2, 2)], [(), (2, 0)]),
        (Ring([(1, 0), None, ()]), [((1, 0), 0), ((0,), 1)], [((), 0), ((1,), 1)]),
        (Rules([("ab", "ba")]), ["ab", "aabb"], ["", "ba"]),
    ]


def stairs():
    """A stair of each kind with configurations that go on, and some in which the machine has stopped."""
    going = [(0, (), 1, (1,)), (0, (0, 1), 0, ())]
    stopped = [(1, (), 0, ()), (1, (1,), 1, (0, 1))]
    found = [(made(ADD_ONE), going, stopped) for made in (TwoMarks, CellStair, TileStair, StackStair, TagStair, RuleStair)]
    found.append((Chain(ADD_ONE, ["stacks", "counters"]), going, stopped))
    stacks = Stacks([("pop", 0, 0, 1), ("push", 1, 1, 0), None])
    found.append((CounterStair(stacks), [(0, (1, 1), ()), (1, (), ())], [(2, (1,), ())]))
    counters = Counters(2, [("dec", 0, 1, 2), ("inc", 1, 0), None])
    for made in (RatioStair, UpStair):
        found.append((made(counters), [(0, (2, 1)), (1, (0, 0))], [(2, (0, 3))]))
    found.append((RingStair(Tag(3, [(1, 2), (0,), None])), [(0, 0), (1,)], [(), (2, 0)]))
    return found


def plain(argument):
    """An argument as it can be compared: an object by its attributes."""
    return vars(argument) if hasattr(argument, "__dict__") else argument


class InterfaceTest(unittest.TestCase):
    def listed(self, text):
        """The methods in a list, with their parameters."""
        return [(name, [one for one in parameters.split(", ") if one])
                for name, parameters in (part.split("(") for part in text.replace(") ", ")\n").replace(")", "").split("\n"))]

    def test_each_name_is_defined_in_its_file(self):
        for module, names in INTERFACE.items():
            tree = ast.parse((PACKAGE / f"{module}.py").read_text())
            defined = {node.name: node for node in tree.body if isinstance(node, (ast.ClassDef, ast.FunctionDef))}
            for name, text in names.items():
                self.assertIn(name, defined, module)
                if text is not None:
                    is_class = not text.startswith("(")
                    self.assertIsInstance(defined[name], ast.ClassDef if is_class else ast.FunctionDef)

    def test_functions_and_methods(self):
        for module, names in INTERFACE.items():
            for name, text in names.items():
                owner = getattr(importlib.import_module(f"stepdown.{module}"), name)
                if text is None:
                    continue
                if text.startswith("("):
                    self.assertEqual(list(inspect.signature(owner).parameters), self.listed(text)[0][1], name)
                    continue
                for method, parameters in self.listed(text):
                    # Each stands in the class itself.
                    self.assertIn(method, vars(owner), (name, method))
                    found = list(inspect.signature(vars(owner)[method]).parameters)
                    self.assertEqual(found, ["self"] + parameters, (name, method))

    def test_attributes(self):
        self.assertEqual((ADD_ONE.marks, ADD_ONE.states), (2, 2))
        self.assertEqual(Cells(7, {}).letters, 7)
        self.assertEqual(Tiles(BLANK).tiles, tuple(BLANK))
        self.assertIsInstance(Strip(Tiles(BLANK)).tiles, Tiles)
        self.assertEqual(Stacks([None] * 3).states, 3)
        self.assertEqual((Counters(2, [None] * 3).count, Counters(2, [None] * 3).states), (2, 3))
        self.assertEqual(Tag(3, [None] * 3).letters, 3)
        self.assertEqual(Ring([None] * 3).size, 3)
        for stair, _, _ in stairs():
            for machine in (stair.upper, stair.lower):
                for method in ("step", "stopped", "run"):
                    self.assertTrue(callable(getattr(machine, method)))
        self.assertIsInstance(Chain(ADD_ONE, ["cells"]).stairs, tuple)
        self.assertEqual(errors.BadText(3).line, 3)
        self.assertEqual(errors.BadChain(3).index, 3)

    def test_the_folder_has_all_files(self):
        for module in INTERFACE:
            self.assertTrue((PACKAGE / f"{module}.py").exists(), module)


class MachinesTest(unittest.TestCase):
    def test_machines_that_go_on(self):
        for machine, going, _ in machines():
            for configuration in going:
                self.assertIs(machine.stopped(configuration), False, configuration)
                after = machine.step(configuration)
                self.assertIsNotNone(after)
                self.assertEqual(machine.run(configuration, 0), (configuration, 0))
                self.assertEqual(machine.run(configuration, 1), (after, 1))

    def test_machines_that_have_stopped(self):
        for machine, _, stopped in machines():
            for configuration in stopped:
                self.assertIs(machine.stopped(configuration), True, configuration)
                self.assertIsNone(machine.step(configuration))
                for steps in (0, 1, 10 ** 12):
                    self.assertEqual(machine.run(configuration, steps), (configuration, 0))

    def test_each_kind_that_has_a_name(self):
        kinds = [kind(machine) for machine, _, _ in machines() if not isinstance(machine, Strip)]
        self.assertEqual(kinds, ["tape", "cells", "stacks", "counters", "ratios", "tag", "ring", "rules"])


class StairsTest(unittest.TestCase):
    def test_stairs_that_go_on(self):
        for stair, going, _ in stairs():
            for configuration in going:
                pace = stair.pace(configuration)
                self.assertGreaterEqual(pace, 1)
                self.assertEqual(stair.ending(configuration), 0)
                lower = stair.down(configuration)
                self.assertEqual(stair.up(lower), configuration)
                expected = (stair.down(stair.upper.step(configuration)), pace)
                self.assertEqual(stair.lower.run(lower, pace), expected)

    def test_stairs_that_have_stopped(self):
        for stair, _, stopped in stairs():
            for configuration in stopped:
                self.assertEqual(stair.pace(configuration), 0)
                lower = stair.down(configuration)
                self.assertEqual(stair.up(lower), configuration)
                after, taken = stair.lower.run(lower, 10 ** 6)
                self.assertEqual(taken, stair.ending(configuration))
                self.assertIs(stair.lower.stopped(after), True)


class ErrorsTest(unittest.TestCase):
    def test_each_error_has_the_base_alone(self):
        for name in INTERFACE["errors"]:
            error = getattr(errors, name)
            self.assertEqual(error.__bases__, (ValueError,) if name == "StairError" else (errors.StairError,))

    def test_no_other_file_defines_an_error(self):
        for path in PACKAGE.glob("*.py"):
            if path.name != "errors.py":
                for node in ast.walk(ast.parse(path.read_text())):
                    if isinstance(node, ast.ClassDef):
                        self.assertEqual(node.bases, [], path.name)

    def test_only_own_errors_are_raised(self):
        for path in PACKAGE.glob("*.py"):
            for node in ast.walk(ast.parse(path.read_text())):
                if isinstance(node, ast.Raise):
                    self.assertIn(node.exc.func.id, INTERFACE["errors"], path.name)

    def test_each_error_is_raised(self):
        many = Strip(Tiles([(0, 0, 0, 0), (0, 1, 0, 0)]))
        cases = [
            (errors.BadMachine, lambda: Tape(1, 1, [None])),
            (errors.BadMark, lambda: ADD_ONE.begin((2,))),
            (errors.BadText, lambda: machine_of("")),
            (errors.BadCells, lambda: Cells(0, {})),
            (errors.BadTiles, lambda: Tiles([(0, 0, 0)])),
            (errors.TooLarge, lambda: rows_on(Tiles(BLANK), (0,) * 61, 0, 0)),
            (errors.ManyRows, lambda: many.step(())),
            (errors.BadPlace, lambda: Rules([]).applied("a", 0, 0)),
            (errors.TooMany, lambda: Rules([("a", "b")]).reached("a" * 2001, 1)),
            (errors.BadChain, lambda: Chain(ADD_ONE, [])),
        ]
        self.assertEqual(len(cases), len(INTERFACE["errors"]) - 1)
        for error, call in cases:
            with self.assertRaises(error):
                call()


class ArgumentsTest(unittest.TestCase):
    def unchanged(self, call, *arguments):
        """Calls twice, and looks whether the arguments are as before and lists and dicts are new."""
        before = deepcopy([plain(argument) for argument in arguments])
        first = call(*arguments)
        self.assertEqual([plain(argument) for argument in arguments], before)
        second = call(*arguments)
        if isinstance(first, (list, dict)):
            self.assertEqual(first, second)
            self.assertIsNot(first, second)
            for argument in arguments:
                self.assertIsNot(first, argument)
        return first

    def test_making(self):
        self.unchanged(Tape, 2, 2, list(ADD_ONE_ROWS))
        self.unchanged(Cells, 2, {(0, 1, 0): 0})
        self.unchanged(Tiles, BLANK[::-1])
        self.unchanged(Stacks, [("pop", 0, 0, 1), None])
        self.unchanged(Counters, 2, [("dec", 0, 1, 0), None])
        self.unchanged(Ratios, [(2, 4), (3, 1)])
        self.unchanged(Tag, 2, [(0, 1), None])
        self.unchanged(Ring, [(0, 1), None])
        self.unchanged(Rules, [("a", "b")])
        names = ["stacks", "counters"]
        Chain(ADD_ONE, names)
        self.assertEqual(names, ["stacks", "counters"])

    def test_tables_are_new(self):
        for machine, _, _ in machines():
            if isinstance(machine, Cells):
                self.unchanged(machine.changes)
            elif not isinstance(machine, Strip):
                self.unchanged(machine.table)

    def test_functions_with_lists(self):
        tiles = Tiles(BLANK)
        rows = self.unchanged(fill, tiles, (0, 1), 0, 0, 1)
        self.assertEqual(self.unchanged(ways, tiles, (0, 1), 0, 0, 1), 1)
        self.assertIs(self.unchanged(is_filling, tiles, (0, 1), 0, 0, rows), True)
        self.unchanged(rows_on, tiles, (0, 1), 0, 0)
        self.unchanged(next_floor, rows[0])
        stair = TileStair(ADD_ONE)
        floors = fill(stair.lower.tiles, stair.floor((0, (), 1, ()), 2), 0, 0, 2)
        read = self.unchanged(lambda found: read_off(stair, found), floors)
        self.assertEqual(len(read), 2)
        self.unchanged(exponents, 12, [2, 3])
        self.unchanged(product, [2, 3], (1, 1))
        self.unchanged(primes, 5)
        self.unchanged(chains, 2, 3)
        self.unchanged(trimmed, (1, 0))
        self.unchanged(mark_of, 3, (1, 0))
        for call, argument in ((tape_of, (0, (), 1, ())), (value, (1, 1)), (stack_of, 6), (number_of, (0, 1)),
                               (marks_of, 6), (width, 5)):
            self.unchanged(call, argument)
        self.unchanged(block, 5, 3)

    def test_methods_with_lists(self):
        self.unchanged(Rules([("a", "b")]).places, "aa")
        self.unchanged(Rules([("a", "b")]).reached, "aa", 0)
        self.unchanged(Rules([("a", "b")]).reached, "aa", 1)
        self.unchanged(Cells(2, {(0, 1, 0): 0}).rows, (1,), 2)
        chain = Chain(ADD_ONE, ["stacks"])
        self.unchanged(chain.trail, (0, (), 1, ()), 3)
        self.unchanged(lambda steps: shown(chain, (0, (), 1, ()), steps), 9)
        machine = Counters(2, [("dec", 0, 1, 0), ("inc", 1, 0)])
        self.unchanged(lambda state: loop_at(machine, state), 0)
        self.assertEqual(rounds(machine, (0, (3, 0))), 3)
        self.assertEqual(at_once(machine, (0, (3, 0)), 4), ((0, (1, 2)), 4))

    def test_machines_that_were_passed(self):
        for machine, _, _ in machines():
            before = deepcopy(vars(machine)) if not isinstance(machine, Strip) else None
            if kind(machine) == "tape":
                for made in (TwoMarks, CellStair, TileStair, StackStair, TagStair, RuleStair, mirrored, text_of):
                    made(machine)
            if kind(machine) == "cells":
                mirrored_cells(machine)
                together(machine, machine)
            if kind(machine) == "stacks":
                CounterStair(machine)
            if kind(machine) == "counters":
                RatioStair(machine)
                UpStair(machine)
            if kind(machine) == "ratios":
                reduced(machine)
            if kind(machine) == "tag":
                RingStair(machine)
                code(machine, 0)
            if before is not None:
                self.assertEqual(vars(machine), before)

    def test_nothing_from_outside(self):
        for path in PACKAGE.glob("*.py"):
            for node in ast.walk(ast.parse(path.read_text())):
                if isinstance(node, ast.ImportFrom):
                    self.assertTrue(node.module == "math" or node.module.startswith("stepdown."), path.name)
                self.assertNotIsInstance(node, ast.Import)


class BooleansTest(unittest.TestCase):
    """True and False are not integers."""

    def test_they_are_refused(self):
        cases = [
            (errors.BadMachine, lambda: Tape(2, True, [None] * 2)),
            (errors.BadMachine, lambda: Tape(2, 1, [(True, 1, 0), None])),
            (errors.BadMark, lambda: ADD_ONE.begin((True,))),
            (errors.BadCells, lambda: Cells(True, {})),
            (errors.BadCells, lambda: Cells(2, {(0, True, 0): 0})),
            (errors.BadTiles, lambda: Tiles([(0, 0, 0, False)])),
            (errors.BadMachine, lambda: Stacks([("push", 0, True, 0)])),
            (errors.BadMachine, lambda: Counters(True, [None])),
            (errors.BadMachine, lambda: Counters(1, [("inc", False, 0)])),
            (errors.BadMachine, lambda: Ratios([(True, 1)])),
            (errors.BadMachine, lambda: Tag(True, [None])),
            (errors.BadMachine, lambda: Tag(1, [(False,)])),
            (errors.BadMachine, lambda: Ring([(True,)])),
            (errors.BadPlace, lambda: Rules([("a", "b")]).applied("a", False, 0)),
        ]
        for error, call in cases:
            with self.assertRaises(error):
                call()

    def test_they_are_in_no_configuration(self):
        self.assertIs(ADD_ONE.is_configuration((False, (), 0, ())), False)
        self.assertIs(Cells(2, {}).is_configuration((True,)), False)
        self.assertIs(Strip(Tiles(BLANK)).is_configuration((True,)), False)
        self.assertIs(Tag(2, [None] * 2).is_configuration((True,)), False)
        self.assertIs(Ring([None]).is_configuration(((True,), 0)), False)
        self.assertIs(Ring([None]).is_configuration(((1,), False)), False)


if __name__ == "__main__":
    unittest.main()
