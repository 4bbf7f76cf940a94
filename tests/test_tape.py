"""Tape machines: [1.1] to [1.6], [1.9], [1.10], and [0.4], [0.7] for them."""

import unittest
from random import Random

from stepdown.errors import BadMachine, BadMark
from stepdown.tape import Tape, mirrored, tape_of, trimmed
from tests.samples import (
    ADD_ONE, ADD_ONE_ROWS, BEAVER, NO_NUMBERS, WRONG_KINDS,
    check_step_and_run, random_configuration, sample_configurations, sample_tapes,
)


class MakingTest(unittest.TestCase):
    def refused(self, marks, states, rows):
        with self.assertRaises(BadMachine):
            Tape(marks, states, rows)

    def test_numbers_of_marks(self):
        for marks in (2, 3, 15, 16):
            self.assertEqual(Tape(marks, 1, [None] * marks).marks, marks)
        for marks in (-2, 0, 1, 17, 10 ** 5000):
            self.refused(marks, 1, [None] * (marks if 0 <= marks < 20 else 2))

    def test_numbers_of_states(self):
        for states in (1, 2, 3999, 4000):
            self.assertEqual(Tape(2, states, [None] * (2 * states)).states, states)
        for states in (-1, 0, 4001, 10 ** 5000):
            self.refused(2, states, [None] * (2 * states if 0 <= states < 5000 else 2))

    def test_no_number(self):
        for value in NO_NUMBERS:
            self.refused(value, 1, [None, None])
            self.refused(2, value, [None, None])
        self.refused(2, True, [None, None])

    def test_length_of_the_list(self):
        self.refused(2, 2, [None] * 3)
        self.refused(2, 2, [None] * 5)
        self.refused(2, 2, [])
        self.refused(3, 1, [None] * 2)
        Tape(2, 2, [None] * 4)

    def test_no_list(self):
        for rows in (None, 4, "four", {0: None, 1: None}):
            self.refused(2, 1, rows)

    def test_members(self):
        good = (1, -1, 1)
        Tape(2, 2, [good, (0, 1, 0), None, (1, 1, 1)])
        wrong = [
            [1, -1, 1], (), (1, -1), (1, -1, 1, 0), "abc", 0, False, True, 1,
            (2, -1, 1), (-1, -1, 1), (True, -1, 1), (None, -1, 1), ("1", -1, 1), (1.0, -1, 1),
            (1, 0, 1), (1, 2, 1), (1, -2, 1), (1, True, 1), (1, None, 1), (1, 1.0, 1), (1, "left", 1),
            (1, -1, 2), (1, -1, -1), (1, -1, True), (1, -1, None), (1, -1, 1.0), (1, -1, (1,)),
            (False, 1, 1), (1, 1, False), (1, False, 1), (1, [1], 1), ([1], 1, 1),
        ]
        for member in wrong:
            for at in range(4):
                rows = [good, None, None, good]
                rows[at] = member
                self.refused(2, 2, rows)

    def test_the_bounds_of_members_are_those_of_the_machine(self):
        Tape(16, 1, [(15, 1, 0)] * 16)
        self.refused(15, 1, [(15, 1, 0)] * 15)
        Tape(2, 3, [(1, 1, 2)] * 6)
        self.refused(2, 3, [(1, 1, 3)] * 6)

    def test_the_list_is_copied(self):
        rows = list(ADD_ONE_ROWS)
        machine = Tape(2, 2, rows)
        self.assertEqual(rows, ADD_ONE_ROWS)
        rows[0] = None
        rows.append(None)
        self.assertEqual(machine.table(), ADD_ONE_ROWS)
        self.assertEqual(machine.row(0, 0), (1, 1, 1))
        self.assertFalse(machine.stopped((0, (), 0, ())))

    def test_attributes_are_the_numbers(self):
        machine = Tape(3, 2, [None] * 6)
        self.assertEqual((machine.marks, machine.states), (3, 2))


class RowsTest(unittest.TestCase):
    def test_row(self):
        rows = [(at % 3, 1, at // 3) for at in range(6)]
        machine = Tape(3, 2, rows)
        for state in range(2):
            for mark in range(3):
                self.assertEqual(machine.row(state, mark), (mark, 1, state))
        self.assertIsNone(ADD_ONE.row(1, 0))

    def test_no_such_state_or_mark(self):
        for state, mark in ((-1, 0), (2, 0), (0, -1), (0, 2), (2, 2), (1, 2), (10 ** 30, 0)):
            with self.assertRaises(BadMachine):
                ADD_ONE.row(state, mark)
        for value in NO_NUMBERS:
            with self.assertRaises(BadMachine):
                ADD_ONE.row(value, 0)
            with self.assertRaises(BadMachine):
                ADD_ONE.row(0, value)

    def test_table_is_new_each_time(self):
        table = ADD_ONE.table()
        self.assertEqual(table, ADD_ONE_ROWS)
        self.assertIsInstance(table, list)
        table[0] = None
        table.pop()
        self.assertEqual(ADD_ONE.table(), ADD_ONE_ROWS)
        self.assertEqual(ADD_ONE.row(0, 0), (1, 1, 1))
        self.assertIsNot(ADD_ONE.table(), ADD_ONE.table())


class ConfigurationTest(unittest.TestCase):
    def test_configurations(self):
        machine = Tape(3, 2, [None] * 6)
        for value in (
            (0, (), 0, ()), (1, (), 2, ()), (0, (1,), 0, (2,)), (1, (0, 0, 1), 1, (0, 2)), (0, (2, 2), 2, (1, 1)),
        ):
            self.assertIs(machine.is_configuration(value), True)

    def test_others(self):
        machine = Tape(3, 2, [None] * 6)
        wrong = [
            (), (0,), (0, (), 0), (0, (), 0, (), ()), [0, (), 0, ()],
            (-1, (), 0, ()), (2, (), 0, ()), (0, (), -1, ()), (0, (), 3, ()),
            (0, (0,), 0, ()), (0, (), 0, (0,)), (0, (1, 0), 0, ()), (0, (), 0, (2, 0)),
            (0, (3,), 0, ()), (0, (), 0, (3,)), (0, (-1,), 0, ()), (0, (), 0, (-1,)),
            (0, (3, 1), 0, ()), (0, (), 0, (-1, 1)),
            (0, [], 0, ()), (0, (), 0, []), (0, [1], 0, ()), (0, (), 0, [1]),
            (0, None, 0, ()), (0, (), 0, None), (0, 1, 0, ()), (0, "", 0, ()), (0, (), 0, ""),
            (0, (True,), 0, ()), (0, (), 0, (True,)), (0, (False, 1), 0, ()), (0, (1.0,), 0, ()),
            (0, ((1,),), 0, ()), (0, (None,), 0, ()), (0, ("1",), 0, ()), (0, (), 0, ([1],)),
        ]
        for value in wrong:
            self.assertIs(machine.is_configuration(value), False, value)
        for value in WRONG_KINDS:
            self.assertIs(machine.is_configuration(value), False)
        for value in NO_NUMBERS:
            self.assertIs(machine.is_configuration((value, (), 0, ())), False)
            self.assertIs(machine.is_configuration((0, (), value, ())), False)

    def test_every_run_stays_among_the_configurations(self):
        for machine in sample_tapes():
            for configuration in sample_configurations(machine):
                self.assertTrue(machine.is_configuration(configuration))
                for _ in range(10):
                    configuration = machine.step(configuration)
                    if configuration is None:
                        break
                    self.assertIs(machine.is_configuration(configuration), True)


def plain_step(machine, places, at, state):
    """A step on a dict of marks, from which `step` must not differ."""
    row = machine.row(state, places.get(at, 0))
    if row is None:
        return None
    mark, move, target = row
    places = dict(places)
    places[at] = mark
    return places, at + move, target


def plain_configuration(places, at, state):
    """The configuration of a dict of marks."""
    used = [place for place, mark in places.items() if mark] + [at]
    left = tuple(places.get(place, 0) for place in range(at - 1, min(used) - 1, -1))
    right = tuple(places.get(place, 0) for place in range(at + 1, max(used) + 1))
    return state, left, places.get(at, 0), right


class StepTest(unittest.TestCase):
    def test_moves(self):
        machine = Tape(3, 2, [(2, 1, 1), (2, -1, 1), None, (0, 1, 0), (0, -1, 0), None])
        self.assertEqual(machine.step((0, (1,), 0, (1, 2))), (1, (2, 1), 1, (2,)))
        self.assertEqual(machine.step((0, (1, 2), 1, (2,))), (1, (2,), 1, (2, 2)))
        self.assertEqual(machine.step((0, (), 0, ())), (1, (2,), 0, ()))
        self.assertEqual(machine.step((0, (), 1, ())), (1, (), 0, (2,)))
        self.assertEqual(machine.step((1, (), 0, (1,))), (0, (), 1, ()))
        self.assertEqual(machine.step((1, (2,), 0, (1,))), (0, (0, 2), 1, ()))
        self.assertEqual(machine.step((1, (1,), 1, ())), (0, (), 1, ()))
        self.assertEqual(machine.step((1, (1,), 1, (2,))), (0, (), 1, (0, 2)))
        self.assertEqual(machine.step((1, (), 0, ())), (0, (), 0, ()))
        self.assertIsNone(machine.step((0, (1,), 2, (1,))))
        self.assertIsNone(machine.step((1, (), 2, ())))

    def test_stopped(self):
        self.assertIs(ADD_ONE.stopped((0, (), 1, ())), False)
        self.assertIs(ADD_ONE.stopped((1, (), 1, ())), True)
        self.assertIs(ADD_ONE.stopped((1, (1,), 0, ())), True)

    def test_steps_on_a_tape_with_numbered_places(self):
        for machine in sample_tapes():
            state = 0
            places, at = {}, 0
            for _ in range(40):
                configuration = plain_configuration(places, at, state)
                after = plain_step(machine, places, at, state)
                if after is None:
                    self.assertIsNone(machine.step(configuration))
                    break
                places, at, state = after
                self.assertEqual(machine.step(configuration), plain_configuration(places, at, state))

    def test_step_stopped_and_run(self):
        for machine in sample_tapes():
            for configuration in sample_configurations(machine, 5):
                check_step_and_run(self, machine, configuration, 30)

    def test_run_of_the_beaver(self):
        empty = (0, (), 0, ())
        end, taken = check_step_and_run(self, BEAVER, empty, 50)
        self.assertEqual(taken, 21)
        self.assertEqual(end[0], 3)
        self.assertEqual(sum(tape_of(end)[0]), 5)
        self.assertEqual(BEAVER.run(empty, taken), (end, taken))
        self.assertEqual(BEAVER.run(empty, taken - 1)[1], taken - 1)
        self.assertEqual(BEAVER.run(empty, taken + 1), (end, taken))
        self.assertEqual(BEAVER.run(empty, 10 ** 40), (end, taken))

    def test_run_from_a_stopped_configuration(self):
        for steps in (0, 1, 9):
            self.assertEqual(ADD_ONE.run((1, (1,), 0, (1,)), steps), ((1, (1,), 0, (1,)), 0))

    def test_a_long_run(self):
        machine = Tape(2, 1, [(1, 1, 0), (1, 1, 0)])
        configuration, taken = machine.run((0, (), 0, ()), 100000)
        self.assertEqual((configuration, taken), ((0, (1,) * 100000, 0, ()), 100000))
        back = Tape(2, 1, [None, (0, -1, 0)])
        self.assertEqual(back.run((0, (1,) * 1000, 1, ()), 5000), ((0, (), 0, ()), 1001))


class WordsTest(unittest.TestCase):
    def test_begin(self):
        machine = Tape(3, 1, [None] * 3)
        self.assertEqual(machine.begin(()), (0, (), 0, ()))
        self.assertEqual(machine.begin((2,)), (0, (), 2, ()))
        self.assertEqual(machine.begin((0,)), (0, (), 0, ()))
        self.assertEqual(machine.begin((1, 2, 0, 1)), (0, (), 1, (2, 0, 1)))
        self.assertEqual(machine.begin((1, 2, 0, 0)), (0, (), 1, (2,)))
        self.assertEqual(machine.begin((0, 0, 0)), (0, (), 0, ()))
        self.assertEqual(machine.begin((0, 0, 1)), (0, (), 0, (0, 1)))
        self.assertEqual(Tape(16, 1, [None] * 16).begin((15, 15)), (0, (), 15, (15,)))

    def test_no_mark(self):
        machine = Tape(3, 1, [None] * 3)
        for wrong in (3, -1, 10 ** 20) + NO_NUMBERS:
            for word in ((wrong,), (wrong, 1), (1, wrong), (1, wrong, 0), (0, 0, wrong)):
                with self.assertRaises(BadMark):
                    machine.begin(word)

    def test_trimmed(self):
        for marks, expected in (
            ((), ()), ((0,), ()), ((0, 0), ()), ((1,), (1,)), ((0, 1), (0, 1)), ((1, 0), (1,)),
            ((0, 2, 0, 0), (0, 2)), ((3, 0, 3), (3, 0, 3)),
        ):
            self.assertEqual(trimmed(marks), expected)
        self.assertEqual(trimmed([1, 0]), (1,))

    def test_tape_of(self):
        for configuration, expected in (
            ((0, (), 0, ()), ((0,), 0)),
            ((0, (), 2, ()), ((2,), 0)),
            ((1, (1, 0, 2), 0, ()), ((2, 0, 1, 0), 3)),
            ((1, (), 0, (0, 1, 2)), ((0, 0, 1, 2), 0)),
            ((1, (1, 2), 0, (0, 1)), ((2, 1, 0, 0, 1), 2)),
            ((1, (2,), 1, ()), ((2, 1), 1)),
        ):
            self.assertEqual(tape_of(configuration), expected)


class MirroredTest(unittest.TestCase):
    def test_rows(self):
        machine = mirrored(ADD_ONE)
        self.assertIsInstance(machine, Tape)
        self.assertEqual(machine.table(), [(1, -1, 1), (0, -1, 0), None, None])
        self.assertEqual(ADD_ONE.table(), ADD_ONE_ROWS)

    def test_twice(self):
        for machine in sample_tapes():
            again = mirrored(mirrored(machine))
            self.assertEqual((again.marks, again.states), (machine.marks, machine.states))
            self.assertEqual(again.table(), machine.table())

    def test_mirrored_runs(self):
        random = Random(3)
        for machine in sample_tapes():
            other = mirrored(machine)
            for _ in range(4):
                state, left, mark, right = random_configuration(random, machine)
                for steps in (0, 1, 2, 7, 30):
                    (q, near, here, far), taken = machine.run((state, left, mark, right), steps)
                    self.assertEqual(other.run((state, right, mark, left), steps), ((q, far, here, near), taken))


class ExampleTest(unittest.TestCase):
    def test_adding_one(self):
        self.assertEqual(ADD_ONE.begin((1, 1)), (0, (), 1, (1,)))
        self.assertEqual(ADD_ONE.run(ADD_ONE.begin((1, 1)), 9), ((1, (1,), 0, ()), 3))


if __name__ == "__main__":
    unittest.main()
