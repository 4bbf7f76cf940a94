"""Chains of stairs: [11.1] to [11.10], and [0.5], [0.6] for them."""

import unittest
from itertools import product
from random import Random

from stepdown.cells import Cells
from stepdown.cellstair import CellStair
from stepdown.chain import Chain, chains, kind, shown
from stepdown.counters import Counters
from stepdown.counterstair import CounterStair
from stepdown.errors import BadCells, BadChain, BadMachine
from stepdown.ratios import Ratios
from stepdown.ratiostair import RatioStair
from stepdown.ring import Ring
from stepdown.ringstair import RingStair
from stepdown.rules import Rules
from stepdown.rulestair import RuleStair
from stepdown.stacks import Stacks
from stepdown.stackstair import StackStair
from stepdown.tag import Tag
from stepdown.tagstair import TagStair
from stepdown.tape import Tape
from stepdown.twomarks import TwoMarks
from stepdown.upstair import UpStair
from tests.samples import (
    ADD_ONE, BEAVER, check_promise, check_promise_once, random_tape, sample_configurations,
)

# The example of [2.9], with three marks.
THREE = Tape(3, 1, [None, (2, 1, 0), (1, -1, 0)])
THREE_CONFIGURATIONS = [(0, (), 1, (2,)), (0, (1,), 0, (2,)), (0, (), 2, ()), (0, (1,), 2, ()), (0, (2,), 1, (1,))]
TABLE = {
    "marks": ("tape", "two", TwoMarks), "cells": ("tape", "cells", CellStair), "rules": ("tape", "rules", RuleStair),
    "stacks": ("two", "stacks", StackStair), "tag": ("two", "tag", TagStair),
    "counters": ("stacks", "counters", CounterStair), "ratios": ("counters", "ratios", RatioStair),
    "tape": ("counters", "tape", UpStair), "ring": ("tag", "ring", RingStair),
}
# Chains for a machine with two marks that are made for small machines, of each length.
CHAINS = [
    ["cells"], ["rules"], ["marks"], ["stacks"], ["tag"],
    ["marks", "cells"], ["marks", "stacks"], ["stacks", "counters"], ["tag", "ring"],
    ["stacks", "counters", "ratios"], ["stacks", "counters", "tape"], ["marks", "tag", "ring"], ["marks", "marks", "rules"],
    ["marks", "stacks", "counters", "ratios"], ["marks", "stacks", "counters", "tape"],
]


def fitting(before, name):
    """Whether the stair with a name begins with such a machine."""
    needed = TABLE[name][0]
    return needed == before or (needed == "tape" and before == "two")


def plain_index(marks, names):
    """The index that [11.3] tells, or None if the names are a chain."""
    if not names:
        return 0
    before = "two" if marks == 2 else "tape"
    for index, name in enumerate(names):
        if name not in TABLE or not fitting(before, name):
            return index
        before = TABLE[name][1]
    return None


def plain_pace(stairs, configuration):
    """What [11.5] says of the pace."""
    if len(stairs) == 1:
        return stairs[0].pace(configuration)
    at = stairs[0].down(configuration)
    total = 0
    for _ in range(stairs[0].pace(configuration)):
        total += plain_pace(stairs[1:], at)
        at = stairs[0].lower.step(at)
    return total


def plain_ending(stairs, configuration):
    """What [11.5] says of the ending."""
    if not stairs[0].upper.stopped(configuration):
        return 0
    if len(stairs) == 1:
        return stairs[0].ending(configuration)
    at = stairs[0].down(configuration)
    total = 0
    for _ in range(stairs[0].ending(configuration)):
        total += plain_pace(stairs[1:], at)
        at = stairs[0].lower.step(at)
    return total + plain_ending(stairs[1:], at)


def plain_chains(marks, most):
    """What [11.8] says, by trying all lists."""
    found = []
    for length in range(1, most + 1):
        for names in product(sorted(TABLE), repeat=length):
            if plain_index(marks, names) is None:
                found.append(list(names))
    return sorted(found)


class MakingTest(unittest.TestCase):
    def check(self, machine, names):
        chain = Chain(machine, names)
        self.assertIs(chain.upper, machine)
        self.assertIsInstance(chain.stairs, tuple)
        self.assertEqual(len(chain.stairs), len(names))
        upper = machine
        for stair, name in zip(chain.stairs, names):
            self.assertIsInstance(stair, TABLE[name][2])
            self.assertIs(stair.upper, upper)
            upper = stair.lower
        self.assertIs(chain.lower, upper)

    def test_chains_that_are_made(self):
        for names in CHAINS:
            self.check(ADD_ONE, names)
        for names in (["cells"], ["rules"], ["marks"], ["marks", "marks"], ["marks", "stacks"], ["marks", "tag", "ring"],
                      ["marks", "stacks", "counters", "ratios"], ["marks", "stacks", "counters", "tape"]):
            self.check(THREE, names)

    def test_the_list_that_was_passed(self):
        names = ["stacks", "counters"]
        chain = Chain(ADD_ONE, names)
        self.assertEqual(names, ["stacks", "counters"])
        names.append("ratios")
        self.assertEqual(len(chain.stairs), 2)

    def refused(self, machine, names, index):
        with self.assertRaises(BadChain) as caught:
            Chain(machine, names)
        self.assertEqual(caught.exception.index, index)

    def test_the_empty_list(self):
        for machine in (ADD_ONE, THREE):
            self.refused(machine, [], 0)

    def test_names_that_are_none(self):
        for name in ("", "Marks", "MARKS", "tiles", "strip", "two", "marks ", "tape with two marks", "x", None):
            self.refused(ADD_ONE, [name], 0)
            self.refused(ADD_ONE, ["marks", name], 1)
            self.refused(ADD_ONE, ["stacks", "counters", name, "ratios"], 2)
            self.refused(ADD_ONE, [name, "cells", name], 0)

    def test_names_that_begin_with_another_kind(self):
        self.refused(ADD_ONE, ["counters"], 0)
        self.refused(ADD_ONE, ["ratios"], 0)
        self.refused(ADD_ONE, ["tape"], 0)
        self.refused(ADD_ONE, ["ring"], 0)
        self.refused(ADD_ONE, ["cells", "cells"], 1)
        self.refused(ADD_ONE, ["cells", "marks", "nothing"], 1)
        self.refused(ADD_ONE, ["stacks", "stacks"], 1)
        self.refused(ADD_ONE, ["stacks", "ratios"], 1)
        self.refused(ADD_ONE, ["tag", "counters"], 1)
        self.refused(ADD_ONE, ["stacks", "counters", "ring"], 2)
        self.refused(ADD_ONE, ["stacks", "counters", "ratios", "tape"], 3)
        self.refused(ADD_ONE, ["tag", "ring", "ring"], 2)

    def test_stairs_that_need_two_marks(self):
        for marks in range(3, 17):
            machine = Tape(marks, 1, [None] * marks)
            for name in ("stacks", "tag"):
                self.refused(machine, [name], 0)
                self.refused(machine, [name, "nothing"], 0)
        self.refused(ADD_ONE, ["stacks", "counters", "tape", "stacks"], 3)
        self.refused(ADD_ONE, ["stacks", "counters", "tape", "tag"], 3)

    def test_all_lists_of_three_names(self):
        for machine in (Tape(2, 1, [None] * 2), Tape(3, 1, [None] * 3)):
            for names in product(list(TABLE) + ["other"], repeat=3):
                index = plain_index(machine.marks, names)
                if index is not None:
                    self.refused(machine, list(names), index)
                else:
                    self.check(machine, list(names))

    def test_what_a_stair_raises(self):
        many = Tape(2, 501, [None] * 1002)
        with self.assertRaises(BadMachine):
            Chain(many, ["stacks"])
        with self.assertRaises(BadMachine):
            Chain(many, ["marks", "stacks", "counters"])
        with self.assertRaises(BadMachine):
            Chain(Tape(2, 16, [None] * 32), ["stacks", "counters", "ratios"])
        with self.assertRaises(BadMachine):
            Chain(ADD_ONE, ["stacks", "counters", "tape", "rules"])
        with self.assertRaises(BadCells):
            Chain(many, ["cells"])
        with self.assertRaises(BadCells):
            Chain(ADD_ONE, ["stacks", "counters", "tape", "cells"])
        with self.assertRaises(BadMachine):
            Chain(Tape(11, 1, [None] * 11), ["rules"])

    def test_the_names_are_looked_at_first(self):
        many = Tape(2, 501, [None] * 1002)
        self.refused(many, ["stacks", "ring"], 1)
        self.refused(many, ["marks", "stacks", "counters", "nothing"], 3)
        self.refused(Tape(16, 4000, [None] * 64000), ["rules", "rules"], 1)
        self.refused(many, ["cells", "tag"], 1)


class DownAndUpTest(unittest.TestCase):
    def test_down_and_up(self):
        for names in CHAINS:
            chain = Chain(ADD_ONE, names)
            for configuration in sample_configurations(ADD_ONE, 3):
                expected = configuration
                for stair in chain.stairs:
                    expected = stair.down(expected)
                self.assertEqual(chain.down(configuration), expected)
                self.assertEqual(chain.up(expected), configuration)

    def test_up_is_none_as_soon_as_one_is(self):
        chain = Chain(ADD_ONE, ["stacks", "counters", "ratios"])
        self.assertEqual(chain.down((0, (), 1, (1,))), (7 * 3 ** 3,))
        self.assertEqual(chain.up((7 * 3 ** 3,)), (0, (), 1, (1,)))
        # No counter configuration; a third counter that is not empty; a state of the stack machine between.
        self.assertIsNone(chain.up((3 ** 3,)))
        self.assertIsNone(chain.up((7 * 3 ** 3 * 5,)))
        middle = chain.stairs[1].down((1, (), (1,)))
        self.assertEqual(chain.stairs[1].up(middle), (1, (), (1,)))
        self.assertIsNone(chain.up(chain.stairs[2].down(middle)))

    def test_the_chain_to_the_ring(self):
        chain = Chain(ADD_ONE, ["tag", "ring"])
        bits, at = chain.down((0, (), 1, ()))
        self.assertEqual((len(bits), at, [place for place, bit in enumerate(bits) if bit]), (336, 0, [21, 109, 191, 277]))


class PromiseTest(unittest.TestCase):
    def test_the_promise(self):
        random = Random(191)
        for names in CHAINS:
            for machine in (ADD_ONE, random_tape(random, 2, 1), random_tape(random, 2, 2)):
                chain = Chain(machine, names)
                for configuration in sample_configurations(machine, 2):
                    check_promise(self, chain, configuration, 2)

    def test_three_marks(self):
        for names in (["marks", "stacks", "counters", "ratios"], ["marks", "stacks", "counters", "tape"], ["rules"],
                      ["marks", "tag"], ["marks", "stacks"], ["marks", "cells"], ["marks", "rules"], ["cells"]):
            chain = Chain(THREE, names)
            for configuration in THREE_CONFIGURATIONS:
                check_promise(self, chain, configuration, 3)

    def test_three_marks_on_a_ring(self):
        chain = Chain(THREE, ["marks", "tag", "ring"])
        self.assertIs(check_promise_once(self, chain, (0, (), 1, ())), True)
        self.assertIs(check_promise_once(self, chain, (0, (), 2, ())), True)
        self.assertIs(check_promise_once(self, chain, (0, (), 0, (1,))), False)

    def test_pace_and_ending(self):
        for machine in (ADD_ONE, BEAVER):
            for names in CHAINS:
                chain = Chain(machine, names)
                for configuration in sample_configurations(machine, 4):
                    self.assertEqual(chain.pace(configuration), plain_pace(chain.stairs, configuration))
                    self.assertEqual(chain.ending(configuration), plain_ending(chain.stairs, configuration))
        for names in (["marks", "stacks", "counters", "ratios"], ["marks", "tag", "ring"]):
            chain = Chain(THREE, names)
            for configuration in THREE_CONFIGURATIONS:
                self.assertEqual(chain.pace(configuration), plain_pace(chain.stairs, configuration))
                self.assertEqual(chain.ending(configuration), plain_ending(chain.stairs, configuration))

    def test_chains_of_one_stair(self):
        for names in CHAINS[:5]:
            chain = Chain(ADD_ONE, names)
            for configuration in sample_configurations(ADD_ONE):
                self.assertEqual(chain.pace(configuration), chain.stairs[0].pace(configuration))
                self.assertEqual(chain.ending(configuration), chain.stairs[0].ending(configuration))

    def test_some_numbers(self):
        # The stack machine pops a 1 from the stack with the value 3, and pushes a 0 on the empty stack.
        chain = Chain(ADD_ONE, ["stacks", "counters"])
        self.assertEqual(chain.pace((0, (), 1, (1,))), (5 * 1 + 2 + 1) + 2)
        self.assertEqual(chain.ending((0, (), 1, (1,))), 0)
        self.assertEqual(chain.pace((1, (), 1, (1,))), 0)
        self.assertEqual(chain.ending((1, (), 1, (1,))), 5 * 1 + 2 + 1)
        chain = Chain(ADD_ONE, ["stacks", "counters", "ratios"])
        self.assertEqual(chain.pace((0, (), 1, (1,))), 20)
        self.assertEqual(chain.ending((1, (), 1, (1,))), 16)

    def test_where_the_machine_has_stopped(self):
        for names in CHAINS:
            chain = Chain(ADD_ONE, names)
            for configuration in ((1, (), 0, ()), (1, (1,), 1, (1,))):
                self.assertIs(check_promise_once(self, chain, configuration), False)
        chain = Chain(THREE, ["marks", "stacks", "counters", "ratios"])
        self.assertIs(check_promise_once(self, chain, (0, (2,), 0, (1,))), False)

    def test_a_long_chain(self):
        chain = Chain(ADD_ONE, ["marks"] * 1500)
        self.assertEqual(chain.pace((0, (), 1, (1,))), 1)
        self.assertEqual(chain.ending((1, (), 1, (1,))), 0)
        self.assertEqual(chain.up(chain.down((0, (), 1, (1,)))), (0, (), 1, (1,)))


class TrailTest(unittest.TestCase):
    def test_no_steps(self):
        for names in CHAINS:
            chain = Chain(ADD_ONE, names)
            for configuration in sample_configurations(ADD_ONE, 3):
                self.assertEqual(chain.trail(configuration, 0), [(0, configuration)])
                self.assertEqual(shown(chain, configuration, 0), [(0, configuration)])

    def test_trail(self):
        for names in CHAINS:
            chain = Chain(ADD_ONE, names)
            for configuration in sample_configurations(ADD_ONE, 3):
                for steps in range(6):
                    trail = chain.trail(configuration, steps)
                    expected = []
                    at = configuration
                    taken = 0
                    for _ in range(steps + 1):
                        expected.append((taken, at))
                        taken += chain.pace(at)
                        at = ADD_ONE.step(at)
                        if at is None:
                            break
                    self.assertEqual(trail, expected)

    def test_trail_tells_the_lowest_run(self):
        for names in CHAINS:
            chain = Chain(BEAVER, names)
            start = (0, (1,), 1, ())
            for taken, configuration in chain.trail(start, 4):
                self.assertEqual(chain.lower.run(chain.down(start), taken), (chain.down(configuration), taken))

    def test_past_the_stop(self):
        chain = Chain(ADD_ONE, ["marks"])
        expected = [(0, (0, (), 1, (1,))), (1, (0, (), 1, ())), (2, (0, (), 0, ())), (3, (1, (1,), 0, ()))]
        for steps in (3, 4, 100, 10 ** 12):
            self.assertEqual(chain.trail((0, (), 1, (1,)), steps), expected)
        self.assertEqual(chain.trail((0, (), 1, (1,)), 2), expected[:3])
        self.assertEqual(chain.trail((1, (1,), 0, ()), 5), [(0, (1, (1,), 0, ()))])
        self.assertEqual(shown(chain, (0, (), 1, (1,)), 10 ** 12), expected)

    def test_shown_is_the_beginning_of_the_trail(self):
        for names in CHAINS:
            chain = Chain(ADD_ONE, names)
            for configuration in ((0, (), 1, ()), (0, (1,), 1, (1,)), (1, (), 0, (1,))):
                trail = chain.trail(configuration, 3)
                last = trail[-1][0]
                for steps in {0, 1, 2, 3, last // 3, last // 2, last - 1, last}:
                    if steps >= 0:
                        expected = [pair for pair in trail if pair[0] <= steps]
                        self.assertEqual(shown(chain, configuration, steps), expected)

    def test_shown_past_the_stop(self):
        for names in CHAINS:
            chain = Chain(ADD_ONE, names)
            trail = chain.trail((0, (), 1, ()), 10)
            self.assertEqual(shown(chain, (0, (), 1, ()), trail[-1][0] + 1000), trail)

    def test_the_beaver(self):
        for names in (["stacks", "counters", "tape"], ["tag"], ["stacks", "counters", "ratios"], ["rules"]):
            chain = Chain(BEAVER, names)
            trail = chain.trail((0, (), 0, ()), 100)
            self.assertEqual([pair[1] for pair in trail], [BEAVER.run((0, (), 0, ()), at)[0] for at in range(22)])
            self.assertEqual(shown(chain, (0, (), 0, ()), trail[-1][0]), trail)


class KindTest(unittest.TestCase):
    def test_each_kind(self):
        self.assertEqual(kind(ADD_ONE), "tape")
        self.assertEqual(kind(THREE), "tape")
        self.assertEqual(kind(Cells(2, {})), "cells")
        self.assertEqual(kind(Rules([])), "rules")
        self.assertEqual(kind(Stacks([None])), "stacks")
        self.assertEqual(kind(Tag(1, [None])), "tag")
        self.assertEqual(kind(Counters(1, [None])), "counters")
        self.assertEqual(kind(Ratios([])), "ratios")
        self.assertEqual(kind(Ring([None])), "ring")

    def test_both_ends_of_chains(self):
        for names in CHAINS:
            chain = Chain(ADD_ONE, names)
            self.assertEqual(kind(chain.upper), "tape")
            self.assertEqual(kind(chain.lower), "tape" if names[-1] in ("marks", "tape") else names[-1])


class ChainsTest(unittest.TestCase):
    def test_all_lists(self):
        for marks in (2, 3):
            for most in range(6):
                self.assertEqual(chains(marks, most), plain_chains(marks, most))

    def test_few(self):
        self.assertEqual(chains(2, 0), [])
        self.assertEqual(chains(3, 0), [])
        self.assertEqual(chains(2, 1), [["cells"], ["marks"], ["rules"], ["stacks"], ["tag"]])
        self.assertEqual(chains(3, 1), [["cells"], ["marks"], ["rules"]])
        self.assertEqual(chains(3, 2), [
            ["cells"], ["marks"], ["marks", "cells"], ["marks", "marks"], ["marks", "rules"], ["marks", "stacks"],
            ["marks", "tag"], ["rules"],
        ])

    def test_many(self):
        for marks in (2, 3):
            for most in (6, 7):
                found = chains(marks, most)
                self.assertEqual(found, sorted(found))
                self.assertEqual(len(found), len({tuple(names) for names in found}))
                self.assertTrue(all(1 <= len(names) <= most for names in found))
                self.assertTrue(all(plain_index(marks, names) is None for names in found))
                # Each chain of the greatest length goes on from one that is a name shorter.
                longer = [names for names in found if len(names) == most]
                shorter = [names for names in found if len(names) == most - 1]
                expected = [names + [name] for names in shorter for name in sorted(TABLE)
                            if plain_index(marks, names + [name]) is None]
                self.assertEqual(longer, sorted(expected))
                self.assertEqual(chains(marks, most - 1), [names for names in found if len(names) < most])

    def test_sizes_are_not_looked_at(self):
        for marks in range(3, 17):
            self.assertEqual(chains(marks, 5), chains(3, 5))
        self.assertIn(["stacks", "counters", "tape", "rules"], chains(2, 4))
        self.assertIn(["stacks", "counters", "tape", "marks", "tag"], chains(2, 5))
        self.assertNotIn(["stacks", "counters", "tape", "tag"], chains(2, 4))

    def test_new_lists(self):
        chains(3, 2)[0].append("x")
        chains(3, 2).clear()
        self.assertEqual(chains(3, 2)[0], ["cells"])


class ExampleTest(unittest.TestCase):
    def test_three_marks(self):
        for names in (["marks", "stacks", "counters", "ratios"], ["marks", "tag", "ring"], ["rules"]):
            self.assertIn(names, chains(3, 4))
            self.assertEqual(len(Chain(THREE, names).stairs), len(names))
        with self.assertRaises(BadChain) as caught:
            Chain(THREE, ["stacks"])
        self.assertEqual(caught.exception.index, 0)

    def test_from_tape_to_tape(self):
        chain = Chain(ADD_ONE, ["stacks", "counters", "tape"])
        self.assertIsInstance(chain.lower, Tape)
        self.assertEqual(chain.lower.marks, 16)
        start = ADD_ONE.begin((1, 1))
        self.assertEqual(chain.down(start), (0, (), 8, (2, 2, 2)))
        trail = chain.trail(start, 9)
        self.assertEqual([configuration for _, configuration in trail], [ADD_ONE.run(start, at)[0] for at in range(4)])
        last, taken = trail[-1][1], trail[-1][0]
        after, steps = chain.lower.run(chain.down(start), 10 ** 6)
        self.assertEqual(steps, taken + chain.ending(last))
        self.assertEqual(chain.lower.run(chain.down(start), taken), (chain.down(last), taken))
        self.assertIs(chain.lower.stopped(after), True)


if __name__ == "__main__":
    unittest.main()
