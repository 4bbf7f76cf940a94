"""The stair from tapes with two marks to rows of letters: [8.5] to [8.12], and [0.5], [0.6] for it."""

import unittest
from random import Random

from stepdown.errors import BadMachine
from stepdown.tag import Tag
from stepdown.tagstair import TagStair, marks_of, number_of
from stepdown.tape import Tape
from tests.samples import (
    ADD_ONE, BEAVER, NO_NUMBERS, WRONG_KINDS, check_promise, check_promise_once, random_configuration, random_tape,
)

NAMES = "A a B b x C c S s D d T t U u V v E e G g".split()
# The table of [8.8], with the words for the marks 0 and 1 in the lines of A and B.
TABLE = """
A | C x / C x c x | E x
a | c x c x | e x
B | S | C x / C x c x
b | s | c x c x
E | None | S
e | None | s
C | D U | D U
c | d u | d u
S | T V | T V
s | t v | t v
D | A x of q1 | G x of q1
d | a x of q1 | g x of q1
T | B x of q1 | A x of q1
t | b x of q1 | a x of q1
U | x A x of q0 | x G x of q0
u | a x of q0 | g x of q0
V | B x of q0 | A x of q0
v | b x of q0 | a x of q0
"""


def expected_word(machine, pair, name):
    """The word that [8.8] tells."""
    if name in "xGg":
        text = {"x": "None", "G": "B x", "g": "b x"}[name]
        return numbers_of(text, pair)
    row = machine.row(pair // 2, pair % 2)
    if row is None:
        return None
    mark, move, state = row
    lines = [line.split(" | ") for line in TABLE.split("\n") if line]
    text = [line for line in lines if line[0] == name][0][1 if move == 1 else 2]
    if "/" in text:
        text = text.split(" / ")[mark]
    if " of " in text:
        text, whose = text.split(" of ")
        pair = 2 * state + int(whose[1])
    return numbers_of(text, pair)


def numbers_of(text, pair):
    if text == "None":
        return None
    return tuple(21 * pair + NAMES.index(name) for name in text.split())


def expected_words(machine):
    return [expected_word(machine, pair, name) for pair in range(2 * machine.states) for name in NAMES]


def named(row):
    """The names of the letters of a row."""
    return " ".join(NAMES[letter % 21] for letter in row)


def two_mark_tapes():
    """Machines with two marks."""
    random = Random(141)
    return [ADD_ONE, BEAVER] + [random_tape(random, 2, states) for states in (1, 1, 2, 2, 3, 4, 6)]


class NumberTest(unittest.TestCase):
    def test_number_of(self):
        self.assertEqual(number_of(()), 0)
        self.assertEqual(number_of((1,)), 1)
        self.assertEqual(number_of((0, 1)), 2)
        self.assertEqual(number_of((1, 1)), 3)
        self.assertEqual(number_of((0, 0, 1, 1)), 12)

    def test_marks_of(self):
        self.assertEqual(marks_of(0), ())
        self.assertEqual(marks_of(1), (1,))
        self.assertEqual(marks_of(2), (0, 1))
        self.assertEqual(marks_of(12), (0, 0, 1, 1))

    def test_each_is_the_way_back_of_the_other(self):
        for number in list(range(600)) + [2 ** 64, 2 ** 64 - 1, 10 ** 100, 3 ** 5000, 2 ** 3000]:
            marks = marks_of(number)
            self.assertIsInstance(marks, tuple)
            self.assertEqual(number_of(marks), number)
            self.assertEqual(marks[-1:], () if number == 0 else (1,))
        self.assertEqual(number_of((0,) * 5000 + (1,)), 2 ** 5000)


class LowerTest(unittest.TestCase):
    def check(self, machine):
        stair = TagStair(machine)
        self.assertIs(stair.upper, machine)
        self.assertIsInstance(stair.lower, Tag)
        self.assertEqual(stair.lower.letters, 42 * machine.states)
        self.assertEqual(stair.lower.table(), expected_words(machine))

    def test_all_words(self):
        for machine in two_mark_tapes():
            self.check(machine)

    def test_both_moves_both_marks_and_none(self):
        for row in [None] + [(mark, move, state) for mark in (0, 1) for move in (-1, 1) for state in (0, 1)]:
            self.check(Tape(2, 2, [row, None, None, None]))
            self.check(Tape(2, 2, [None, row, row, None]))
            self.check(Tape(2, 2, [row, row, None, row]))

    def test_some_words(self):
        stair = TagStair(ADD_ONE)
        words = stair.lower.table()
        # The pair 0 writes 1 and goes to the right, into the state 1, whose pairs are 2 and 3.
        self.assertEqual(words[0], (5, 4, 6, 4))
        self.assertEqual(words[1], (6, 4, 6, 4))
        self.assertEqual(words[4], None)
        self.assertEqual(words[9], (63, 67))
        self.assertEqual(words[13], (46, 42, 46))
        self.assertEqual(words[17], None)
        self.assertEqual(words[19], (2, 4))
        # The pair 1 writes 0.
        self.assertEqual(words[21], (26, 25))
        # The pair 2 has stopped.
        self.assertEqual(words[42:63], [None] * 19 + [(44, 46), (45, 46)])

    def test_other_numbers_of_marks(self):
        for marks in range(3, 17):
            with self.assertRaises(BadMachine):
                TagStair(Tape(marks, 1, [None] * marks))

    def test_number_of_states(self):
        rows = [(1, 1, 399), (0, -1, 0)] * 400
        stair = TagStair(Tape(2, 400, rows))
        self.assertEqual(stair.lower.letters, 16800)
        self.assertEqual(stair.lower.table()[-42:], [
            expected_word(stair.upper, pair, name) for pair in (798, 799) for name in NAMES
        ])
        for states in (401, 402, 477, 4000):
            with self.assertRaises(BadMachine):
                TagStair(Tape(2, states, [None] * (2 * states)))


class DownAndUpTest(unittest.TestCase):
    stair = TagStair(BEAVER)

    def test_down(self):
        self.assertEqual(self.stair.down((0, (), 0, ())), (0, 4, 2, 4))
        self.assertEqual(self.stair.down((0, (), 1, (1,))), (21, 25, 23, 25, 24, 25))
        self.assertEqual(self.stair.down((3, (0, 1), 1, (1,))), (147, 151, 148, 151, 148, 151, 149, 151, 150, 151))
        self.assertEqual(len(self.stair.down((1, (1, 0, 1), 0, (1, 1)))), 4 + 2 * 5 + 2 * 3)

    def test_up(self):
        self.assertEqual(self.stair.up((0, 4, 2, 4)), (0, (), 0, ()))
        self.assertEqual(self.stair.up((21, 25, 23, 25, 24, 25)), (0, (), 1, (1,)))
        self.assertEqual(self.stair.up((147, 151, 148, 151, 148, 151, 149, 151, 150, 151)), (3, (0, 1), 1, (1,)))

    def test_each_is_the_way_back_of_the_other(self):
        for state in range(4):
            for mark in (0, 1):
                for left in range(9):
                    for right in range(9):
                        configuration = (state, marks_of(left), mark, marks_of(right))
                        self.assertEqual(self.stair.up(self.stair.down(configuration)), configuration)

    def test_rows_of_other_forms(self):
        wrong = [
            (), (0,), (0, 4), (0, 4, 2), (4,), (2, 4), (2, 4, 0, 4), (0, 4, 1, 4), (4, 0, 4, 2),
            (0, 4, 2, 4, 1, 4), (0, 4, 3, 4, 2, 4), (0, 4, 2, 4, 2, 4), (0, 4, 0, 4, 2, 4), (0, 4, 2, 4, 4),
            (0, 4, 1, 4, 2, 4, 3), (1, 4, 2, 4), (0, 4, 2, 4, 3, 5), (0, 2, 4, 4), (0, 4, 2, 25), (0, 25, 2, 4),
            (0, 4, 23, 4), (0, 4, 23, 25), (21, 25, 2, 4), (0, 4, 1, 4, 2, 4, 24, 4), (0, 4, 22, 4, 2, 4),
            (19, 4, 2, 4), (0, 4, 2, 4, 20, 4), (5, 4, 2, 4), (0, 4, 2, 4, 0, 4, 2, 4), (0, 4, 1, 25, 2, 4),
        ]
        for row in wrong:
            self.assertIsNone(self.stair.up(row), row)

    def test_all_short_rows(self):
        stair = TagStair(Tape(2, 1, [None, None]))
        letters = [0, 1, 2, 3, 4, 5, 21, 23, 25]
        belongs = {stair.down((0, left, mark, right)): (0, left, mark, right)
                   for mark in (0, 1) for left in ((), (1,)) for right in ((), (1,))}
        rows = [()]
        for _ in range(6):
            rows += [row + (letter,) for row in rows if len(row) % 2 == 0 for letter in letters]
            rows += [row + (letter,) for row in rows if len(row) % 2 == 1 for letter in (4, 25)]
            rows = list(dict.fromkeys(row for row in rows if len(row) < 7))
        for row in rows:
            self.assertEqual(stair.up(row), belongs.get(row), row)

    def test_values_that_are_no_rows(self):
        for value in WRONG_KINDS:
            self.assertIsNone(self.stair.up(value))
        for value in NO_NUMBERS:
            self.assertIsNone(self.stair.up((value, 4, 2, 4)))
            self.assertIsNone(self.stair.up((0, 4, 2, value)))
            self.assertIsNone(self.stair.up((0, 4, value, 4)))
        for value in ([0, 4, 2, 4], (0, 4, True, 4, 2, 4), (False, 4, 2, 4), (168, 172, 170, 172), (-21, -17, -19, -17)):
            self.assertIsNone(self.stair.up(value))


class PromiseTest(unittest.TestCase):
    def test_pace(self):
        for mark in (0, 1):
            right = TagStair(Tape(2, 1, [(mark, 1, 0)] * 2))
            left = TagStair(Tape(2, 1, [(mark, -1, 0)] * 2))
            for m in (0, 1, 2, 3, 10, 2 ** 90 + 1):
                for n in (0, 1, 2, 5, 8, 3 ** 70):
                    configuration = (0, marks_of(m), 1, marks_of(n))
                    expected = m + n + 2 * (2 * m + mark) + 2 * (n // 2) + 6
                    self.assertEqual(right.pace(configuration), expected)
                    expected = 2 * m + n + 3 * (2 * n + mark) + 2 * (m // 2) + 8
                    self.assertEqual(left.pace(configuration), expected)

    def test_pace_and_ending_of_stopped_ones(self):
        stair = TagStair(ADD_ONE)
        for left in ((), (1,), (0, 1)):
            self.assertEqual(stair.pace((1, left, 0, (1,))), 0)
            self.assertEqual(stair.ending((1, left, 0, (1,))), 0)
            self.assertEqual(stair.ending((0, left, 0, (1,))), 0)

    def test_both_moves_with_odd_and_even_numbers(self):
        for move in (-1, 1):
            for written in (0, 1):
                stair = TagStair(Tape(2, 2, [(written, move, 1), None, (written, move, 0), (1 - written, move, 1)]))
                for m in range(8):
                    for n in range(8):
                        for state, mark in ((0, 0), (1, 0), (1, 1)):
                            configuration = (state, marks_of(m), mark, marks_of(n))
                            self.assertIs(check_promise_once(self, stair, configuration), True)
                        self.assertIs(check_promise_once(self, stair, (0, marks_of(m), 1, marks_of(n))), False)

    def test_the_promise(self):
        random = Random(142)
        for machine in two_mark_tapes():
            stair = TagStair(machine)
            for _ in range(10):
                configuration = random_configuration(random, machine, 3)
                self.assertTrue(stair.lower.is_configuration(stair.down(configuration)))
                check_promise(self, stair, configuration, 4)

    def test_the_beaver(self):
        stair = TagStair(BEAVER)
        check_promise(self, stair, (0, (), 0, ()), 30)
        after, taken = stair.lower.run(stair.down((0, (), 0, ())), 10 ** 9)
        self.assertEqual(stair.up(after), BEAVER.run((0, (), 0, ()), 30)[0])
        self.assertIs(stair.lower.stopped(after), True)

    def test_long_rows(self):
        stair = TagStair(ADD_ONE)
        configuration = (0, (1,) * 12, 1, (0, 1) * 6)
        after, taken = stair.lower.run(stair.down(configuration), stair.pace(configuration))
        self.assertEqual(taken, stair.pace(configuration))
        self.assertEqual(stair.up(after), ADD_ONE.step(configuration))


class ExampleTest(unittest.TestCase):
    def test_adding_one(self):
        stair = TagStair(ADD_ONE)
        row = stair.down(ADD_ONE.begin((1, 1)))
        self.assertEqual(row, (21, 25, 23, 25, 24, 25))
        self.assertEqual(stair.pace(ADD_ONE.begin((1, 1))), 7)
        names = [named(row)]
        for _ in range(7):
            row = stair.lower.step(row)
            names.append(named(row))
        self.assertEqual(names, [
            "A x B x b x", "B x b x C x", "b x C x S", "C x S s", "S s D U", "D U T V", "T V A x", "A x B x",
        ])
        self.assertEqual(row, (21, 25, 23, 25))
        self.assertEqual(stair.up(row), (0, (), 1, ()))


if __name__ == "__main__":
    unittest.main()
