"""The stair from tapes to rules on strings: [10.6] to [10.10], and [0.5], [0.6] for it."""

import unittest
from itertools import product
from random import Random

from stepdown.errors import BadMachine
from stepdown.rules import Rules
from stepdown.rulestair import RuleStair
from stepdown.tape import Tape
from tests.samples import (
    ADD_ONE, BEAVER, check_promise, check_promise_once, random_tape, sample_configurations, sample_tapes,
)

# Both moves, in both of which a blank and another mark are written.
BOTH = Tape(2, 4, [(0, 1, 1), (1, 1, 2), (0, -1, 0), (1, -1, 3), (1, -1, 1), (0, -1, 2), None, (0, 1, 3)])


def tapes():
    """Machines with at most ten marks, and one whose states have numbers of two digits."""
    random = Random(181)
    machines = [machine for machine in sample_tapes() if machine.marks <= 10]
    return machines + [BOTH, random_tape(random, 2, 13), random_tape(random, 3, 11), random_tape(random, 10, 2)]


def expected_rules(machine):
    """The rules that [10.7] tells."""
    digits = [str(mark) for mark in range(machine.marks)]
    rules = []
    for state in range(machine.states):
        for mark in range(machine.marks):
            row = machine.row(state, mark)
            if row is None:
                continue
            for l in ["["] + digits:
                for r in digits + ["]"]:
                    rules.append((l + "(" + str(state) + ")" + str(mark) + r, expected_new(row, l, r)))
    return rules


def expected_new(row, l, r):
    w, move, t = str(row[0]), row[1], "(" + str(row[2]) + ")"
    if move == 1:
        new = l
        if not (l == "[" and w == "0"):
            new += w
        new += t
        return new + (r if r != "]" else "0]")
    new = t + l if l != "[" else "[" + t + "0"
    if not (r == "]" and w == "0"):
        new += w
    return new + r


class LowerTest(unittest.TestCase):
    def test_all_rules_in_their_order(self):
        for machine in tapes():
            stair = RuleStair(machine)
            self.assertIs(stair.upper, machine)
            self.assertIsInstance(stair.lower, Rules)
            self.assertEqual(stair.lower.table(), expected_rules(machine))

    def test_a_move_to_the_right(self):
        rules = RuleStair(Tape(2, 2, [None, (1, 1, 1), None, (0, 1, 0)])).lower.table()
        self.assertEqual(rules[:9], [
            ("[(0)10", "[1(1)0"), ("[(0)11", "[1(1)1"), ("[(0)1]", "[1(1)0]"),
            ("0(0)10", "01(1)0"), ("0(0)11", "01(1)1"), ("0(0)1]", "01(1)0]"),
            ("1(0)10", "11(1)0"), ("1(0)11", "11(1)1"), ("1(0)1]", "11(1)0]"),
        ])
        self.assertEqual(rules[9:13], [
            ("[(1)10", "[(0)0"), ("[(1)11", "[(0)1"), ("[(1)1]", "[(0)0]"), ("0(1)10", "00(0)0"),
        ])
        self.assertEqual(len(rules), 18)

    def test_a_move_to_the_left(self):
        rules = RuleStair(Tape(2, 2, [None, (1, -1, 1), None, (0, -1, 0)])).lower.table()
        self.assertEqual(rules[:9], [
            ("[(0)10", "[(1)010"), ("[(0)11", "[(1)011"), ("[(0)1]", "[(1)01]"),
            ("0(0)10", "(1)010"), ("0(0)11", "(1)011"), ("0(0)1]", "(1)01]"),
            ("1(0)10", "(1)110"), ("1(0)11", "(1)111"), ("1(0)1]", "(1)11]"),
        ])
        self.assertEqual(rules[9:13], [
            ("[(1)10", "[(0)000"), ("[(1)11", "[(0)001"), ("[(1)1]", "[(0)0]"), ("0(1)10", "(0)000"),
        ])
        self.assertEqual(rules[14], ("0(1)1]", "(0)0]"))

    def test_states_with_two_digits(self):
        rows = [None] * 22 + [(1, 1, 10), (1, -1, 9)]
        rules = RuleStair(Tape(2, 12, rows)).lower.table()
        self.assertEqual(rules[0], ("[(11)00", "[1(10)0"))
        self.assertEqual(rules[9], ("[(11)10", "[(9)010"))

    def test_no_rules(self):
        self.assertEqual(RuleStair(Tape(3, 2, [None] * 6)).lower.table(), [])

    def test_number_of_marks(self):
        self.assertEqual(len(RuleStair(Tape(10, 1, [(9, 1, 0)] * 10)).lower.table()), 1210)
        for marks in range(11, 17):
            with self.assertRaises(BadMachine):
                RuleStair(Tape(marks, 1, [None] * marks))

    def test_number_of_rules(self):
        # Each row makes 9 rules: 2222 rows make 19998, and 2223 make 20007.
        rows = [(1, 1, 0)] * 2222 + [None] * 100
        self.assertEqual(len(RuleStair(Tape(2, 1161, rows)).lower.table()), 19998)
        with self.assertRaises(BadMachine):
            RuleStair(Tape(2, 1161, [(1, 1, 0)] * 2223 + [None] * 99))
        # Each row makes 16 rules: 1250 rows make 20000.
        rows = [(1, 1, 0)] * 1250 + [None]
        self.assertEqual(len(RuleStair(Tape(3, 417, rows)).lower.table()), 20000)
        with self.assertRaises(BadMachine):
            RuleStair(Tape(3, 417, [(1, 1, 0)] * 1251))
        with self.assertRaises(BadMachine):
            RuleStair(Tape(10, 4000, [(1, 1, 0)] * 40000))
        self.assertEqual(RuleStair(Tape(10, 4000, [None] * 40000)).lower.table(), [])


class DownAndUpTest(unittest.TestCase):
    stair = RuleStair(Tape(3, 12, [None] * 36))

    def test_down(self):
        self.assertEqual(self.stair.down((0, (), 0, ())), "[(0)0]")
        self.assertEqual(self.stair.down((11, (), 2, (1,))), "[(11)21]")
        self.assertEqual(self.stair.down((7, (0, 2, 1), 1, (0, 0, 2))), "[120(7)1002]")

    def test_up(self):
        self.assertEqual(self.stair.up("[(0)0]"), (0, (), 0, ()))
        self.assertEqual(self.stair.up("[(11)21]"), (11, (), 2, (1,)))
        self.assertEqual(self.stair.up("[120(7)1002]"), (7, (0, 2, 1), 1, (0, 0, 2)))

    def test_blanks_at_the_ends(self):
        for string in ("[0(0)0]", "[(0)00]", "[01(0)1]", "[1(0)10]", "[00(0)1]", "[0(7)1002]", "[120(7)10020]", "[(0)10]"):
            self.assertIsNone(self.stair.up(string), string)

    def test_strings_of_other_forms(self):
        wrong = [
            "", "[", "]", "[]", "()", "[()]", "[(0)]", "(0)0", "[(0)0", "(0)0]", "[0)0]", "[(00]", "[(00)0]", "[(01)1]",
            "[(12)0]", "[(99)0]", "[(-1)0]", "[(+1)0]", "[( 1)0]", "[(1 )0]", "[(a)0]", "[()0]", "[(0)3]", "[(0)9]",
            "[3(0)0]", "[(0)03]", "[(0)a]", "[a(0)0]", "[1(0)(0)1]", "[(0)1(0)1]", "[[(0)0]", "[(0)0]]", "[(0)0] ",
            " [(0)0]", "[(0)0]\n", "[ (0)0]", "[(0) 0]", "[1(0)]", "][(0)0", "[)0(0]", "[(0)0][(0)0]", "[((0)0]",
            "[(0))0]", "[1]", "[1)1(1]", "[(0)-1]", "[(0)1.]", "[120(7)1002", "120(7)1002]", "[(\u0661)0]", "[(0)\u0661]",
        ]
        for string in wrong:
            self.assertIsNone(self.stair.up(string), string)

    def test_all_short_strings(self):
        stair = RuleStair(Tape(2, 2, [None] * 4))
        sides = [(), (1,), (0, 1), (1, 1)]
        belongs = {}
        for state, left, mark, right in product((0, 1), sides, (0, 1), sides):
            belongs[stair.down((state, left, mark, right))] = (state, left, mark, right)
        for many in range(7):
            for string in map("".join, product("[]()01", repeat=many)):
                self.assertEqual(stair.up(string), belongs.get(string), string)

    def test_each_is_the_way_back_of_the_other(self):
        for machine in tapes():
            stair = RuleStair(machine)
            for configuration in sample_configurations(machine):
                self.assertEqual(stair.up(stair.down(configuration)), configuration)


class PromiseTest(unittest.TestCase):
    def test_pace_and_ending(self):
        stair = RuleStair(ADD_ONE)
        self.assertEqual(stair.pace((0, (), 1, ())), 1)
        self.assertEqual(stair.ending((0, (), 1, ())), 0)
        self.assertEqual(stair.pace((1, (), 1, ())), 0)
        self.assertEqual(stair.ending((1, (), 1, ())), 0)

    def test_the_promise(self):
        for machine in tapes():
            stair = RuleStair(machine)
            for configuration in sample_configurations(machine, 8):
                check_promise(self, stair, configuration, 15)

    def test_at_the_ends_of_the_tape(self):
        stair = RuleStair(BOTH)
        sides = [(), (1,), (0, 1), (1, 1), (0, 0, 1)]
        for state, left, mark, right in product(range(4), sides, (0, 1), sides):
            configuration = (state, left, mark, right)
            self.assertIs(check_promise_once(self, stair, configuration), not BOTH.stopped(configuration))

    def test_one_place(self):
        for machine in tapes():
            stair = RuleStair(machine)
            for configuration in sample_configurations(machine, 6):
                for _ in range(8):
                    places = stair.lower.places(stair.down(configuration))
                    self.assertEqual(len(places), 0 if machine.stopped(configuration) else 1)
                    if machine.stopped(configuration):
                        break
                    configuration = machine.step(configuration)

    def test_reached_along_a_run(self):
        for machine in (ADD_ONE, BEAVER, BOTH, random_tape(Random(182), 3, 2)):
            stair = RuleStair(machine)
            for configuration in sample_configurations(machine, 6):
                string = stair.down(configuration)
                for steps in range(12):
                    after, taken = machine.run(configuration, steps)
                    expected = [stair.down(after)] if taken == steps else []
                    self.assertEqual(stair.lower.reached(string, steps), expected)

    def test_another_order_of_the_rules(self):
        random = Random(183)
        for machine in (ADD_ONE, BEAVER, BOTH):
            stair = RuleStair(machine)
            rules = stair.lower.table()
            for others in (rules[::-1], random.sample(rules, len(rules))):
                for configuration in sample_configurations(machine, 6):
                    string = stair.down(configuration)
                    self.assertEqual(Rules(others).run(string, 20), stair.lower.run(string, 20))

    def test_where_the_machine_has_stopped(self):
        stair = RuleStair(ADD_ONE)
        for configuration in ((1, (), 0, ()), (1, (1, 1), 1, (0, 1))):
            self.assertIs(check_promise_once(self, stair, configuration), False)
            string = stair.down(configuration)
            self.assertEqual(stair.lower.places(string), [])
            self.assertEqual(stair.lower.reached(string, 1), [])
            self.assertEqual(stair.lower.run(string, 100), (string, 0))

    def test_the_beaver(self):
        stair = RuleStair(BEAVER)
        string, taken = stair.lower.run("[(0)0]", 1000)
        self.assertEqual((stair.up(string), taken), BEAVER.run((0, (), 0, ()), 1000))


class ExampleTest(unittest.TestCase):
    def test_adding_one(self):
        stair = RuleStair(ADD_ONE)
        self.assertEqual(stair.down((0, (1,), 1, ())), "[1(0)1]")
        self.assertIn(("1(0)1]", "10(0)0]"), stair.lower.table())
        self.assertEqual(stair.lower.step("[1(0)1]"), "[10(0)0]")
        self.assertEqual(stair.up("[10(0)0]"), ADD_ONE.step((0, (1,), 1, ())))


if __name__ == "__main__":
    unittest.main()
