"""The stair from rows of letters to rings: [9.5] to [9.9], and [0.5], [0.6] for it."""

import unittest
from itertools import product
from random import Random

from stepdown.ring import Ring
from stepdown.ringstair import RingStair, code
from stepdown.tag import Tag
from stepdown.tagstair import TagStair
from tests.samples import (
    ADD_ONE, NO_NUMBERS, WRONG_KINDS, check_promise, check_promise_once, random_row, random_tag,
)

EXAMPLE = Tag(2, [(0, 1), ()])
MIXED = Tag(4, [(), (2,), (3, 0, 1), None])


def sample_tags():
    """Tag machines with one letter and more."""
    random = Random(161)
    machines = [EXAMPLE, MIXED, Tag(1, [None]), Tag(1, [()]), Tag(1, [(0,)]), Tag(1, [(0, 0)]), Tag(1, [(0, 0, 0)])]
    return machines + [random_tag(random, letters) for letters in (2, 2, 3, 3, 4, 5, 7)]


def expected_code(letters, letter):
    return tuple(1 if at == letter else 0 for at in range(letters))


def expected_words(machine):
    """The words that [9.5] tells."""
    words = []
    for word in machine.table():
        if word is None:
            words.append(None)
        else:
            words.append(tuple(bit for letter in word for bit in expected_code(machine.letters, letter)))
    return words + [()] * machine.letters


class CodeTest(unittest.TestCase):
    def test_code(self):
        self.assertEqual(code(Tag(1, [None]), 0), (1,))
        self.assertEqual(code(EXAMPLE, 0), (1, 0))
        self.assertEqual(code(EXAMPLE, 1), (0, 1))
        self.assertEqual(code(MIXED, 2), (0, 0, 1, 0))
        for machine in sample_tags():
            for letter in range(machine.letters):
                self.assertEqual(code(machine, letter), expected_code(machine.letters, letter))
        self.assertEqual(code(Tag(20000, [None] * 20000), 12345), expected_code(20000, 12345))


class LowerTest(unittest.TestCase):
    def test_all_words(self):
        for machine in sample_tags() + [TagStair(ADD_ONE).lower]:
            stair = RingStair(machine)
            self.assertIs(stair.upper, machine)
            self.assertIsInstance(stair.lower, Ring)
            self.assertEqual(stair.lower.size, 2 * machine.letters)
            self.assertEqual(stair.lower.table(), expected_words(machine))

    def test_words_of_each_length(self):
        self.assertEqual(RingStair(MIXED).lower.table(), [
            (), (0, 0, 1, 0), (0, 0, 0, 1, 1, 0, 0, 0, 0, 1, 0, 0), None, (), (), (), (),
        ])
        self.assertEqual(RingStair(Tag(1, [None])).lower.table(), [None, ()])


class DownAndUpTest(unittest.TestCase):
    stair = RingStair(MIXED)

    def test_down(self):
        self.assertEqual(self.stair.down(()), ((), 0))
        self.assertEqual(self.stair.down((2,)), ((0, 0, 1, 0), 0))
        self.assertEqual(self.stair.down((3, 0, 0)), ((0, 0, 0, 1, 1, 0, 0, 0, 1, 0, 0, 0), 0))

    def test_up(self):
        self.assertEqual(self.stair.up(((), 0)), ())
        self.assertEqual(self.stair.up(((0, 0, 1, 0), 0)), (2,))
        self.assertEqual(self.stair.up(((0, 0, 0, 1, 1, 0, 0, 0, 1, 0, 0, 0), 0)), (3, 0, 0))

    def test_another_at(self):
        for at in range(8):
            self.assertIs(self.stair.up(((0, 0, 1, 0), at)) is None, at != 0)
            self.assertIs(self.stair.up(((1, 0, 0, 0, 0, 1, 0, 0), at)) is None, at != 0)

    def test_all_short_rows_of_bits(self):
        for letters in (1, 2, 3, 4):
            stair = RingStair(Tag(letters, [None] * letters))
            belongs = {}
            for many in range(10 // letters + 1):
                for row in product(range(letters), repeat=many):
                    belongs[stair.down(row)] = row
            for many in range(10):
                for bits in product((0, 1), repeat=many):
                    self.assertEqual(stair.up((bits, 0)), belongs.get((bits, 0)), bits)

    def test_values_that_are_no_configurations(self):
        wrong = [
            ((), 1), ((0, 0, 1, 0), 8), ((0, 0, 1, 0), -1), ((0, 0, 1, 0), False), ((0, 0, True, 0), 0),
            ([0, 0, 1, 0], 0), [(0, 0, 1, 0), 0], ((0, 0, 1, 0),), ((0, 0, 1, 0), 0, 0), ("0010", 0), (None, 0),
            ((0, 0, 1.0, 0), 0), ((0, 0, 2, 0), 0), ((0, 0, 1, -1), 0), ((0, 0, 1, 0), 0.0), ((0, 0, 1, 0), None),
        ]
        for value in wrong + list(WRONG_KINDS) + list(NO_NUMBERS):
            self.assertIsNone(self.stair.up(value), value)
        for value in NO_NUMBERS:
            self.assertIsNone(self.stair.up(((0, 0, value, 0), 0)))
            self.assertIsNone(self.stair.up(((0, 0, 1, 0), value)))


class PromiseTest(unittest.TestCase):
    def test_pace(self):
        stair = RingStair(MIXED)
        self.assertEqual(stair.pace((0,)), 4)
        self.assertEqual(stair.pace((1,)), 8)
        self.assertEqual(stair.pace((2,)), 8)
        for first in (0, 1, 2):
            for others in ((0,), (3,), (1, 2), (0, 0, 0)):
                self.assertEqual(stair.pace((first,) + others), 8)
        for row in ((), (3,), (3, 0), (3, 3, 3)):
            self.assertEqual(stair.pace(row), 0)

    def test_ending(self):
        stair = RingStair(MIXED)
        self.assertEqual(stair.ending(()), 0)
        for row in ((3,), (3, 0), (3, 3, 1)):
            self.assertEqual(stair.ending(row), 3)
        for row in ((0,), (1,), (2,), (1, 3), (2, 3, 3)):
            self.assertEqual(stair.ending(row), 0)
        self.assertEqual(RingStair(Tag(2, [None, None])).ending((0, 1)), 0)
        self.assertEqual(RingStair(Tag(2, [None, None])).ending((1, 0)), 1)

    def test_the_promise(self):
        random = Random(162)
        for machine in sample_tags():
            stair = RingStair(machine)
            for _ in range(20):
                check_promise(self, stair, random_row(random, machine), 10)

    def test_all_short_rows(self):
        for machine in sample_tags()[:7]:
            stair = RingStair(machine)
            for many in range(4):
                for row in product(range(machine.letters), repeat=many):
                    self.assertTrue(stair.lower.is_configuration(stair.down(row)))
                    self.assertIs(check_promise_once(self, stair, row), not machine.stopped(row))

    def test_where_the_machine_has_stopped(self):
        stair = RingStair(Tag(3, [None, (0,), None]))
        for row in ((), (0,), (2,), (2, 1), (0, 2, 2), (2, 2)):
            self.assertIs(check_promise_once(self, stair, row), False)
            after, taken = stair.lower.run(stair.down(row), 100)
            self.assertEqual(taken, row[0] if row else 0)

    def test_below_a_tape(self):
        stair = RingStair(TagStair(ADD_ONE).lower)
        row = TagStair(ADD_ONE).down((0, (), 1, (1,)))
        check_promise(self, stair, row, 7)
        after, taken = stair.lower.run(stair.down(row), 7 * 168)
        self.assertEqual(taken, 7 * 168)
        self.assertEqual(stair.up(after), (21, 25, 23, 25))


class ExampleTest(unittest.TestCase):
    def test_two_letters(self):
        stair = RingStair(EXAMPLE)
        self.assertEqual(stair.lower.table(), Ring([(1, 0, 0, 1), (), (), ()]).table())
        self.assertEqual(stair.down((0, 1, 1)), ((1, 0, 0, 1, 0, 1), 0))
        self.assertEqual(stair.lower.run(stair.down((0, 1, 1)), 4), (((0, 1, 1, 0, 0, 1), 0), 4))
        self.assertEqual(stair.up(((0, 1, 1, 0, 0, 1), 0)), (1, 0, 1))
        self.assertEqual(EXAMPLE.step((0, 1, 1)), (1, 0, 1))


if __name__ == "__main__":
    unittest.main()
