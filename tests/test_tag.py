"""Tag machines: [8.2] to [8.4], and [0.4], [0.7] for them."""

import unittest
from random import Random

from stepdown.errors import BadMachine
from stepdown.tag import Tag
from tests.samples import NO_NUMBERS, WRONG_KINDS, check_step_and_run, random_row, random_tag

# A letter for each length of a word that matters: none, one, two, three letters, and None.
WORDS = [(), (2,), (3, 4), (1, 0, 2), None]
MACHINE = Tag(5, WORDS)


def plain_step(machine, row):
    """What [8.3] says."""
    if row == () or machine.word(row[0]) is None:
        return None
    letters = list(row) + list(machine.word(row[0]))
    for _ in range(2):
        if letters:
            letters.pop(0)
    return tuple(letters)


class MakingTest(unittest.TestCase):
    def refused(self, letters, words):
        with self.assertRaises(BadMachine):
            Tag(letters, words)

    def test_number_of_letters(self):
        self.refused(0, [])
        self.assertEqual(Tag(1, [None]).letters, 1)
        self.assertEqual(Tag(1, [(0,)]).letters, 1)
        self.assertEqual(Tag(20000, [(19999, 0)] * 20000).letters, 20000)
        self.refused(20001, [None] * 20001)
        self.refused(-1, [])
        self.refused(True, [None])
        self.refused(True, [(0,)])
        for letters in NO_NUMBERS:
            self.refused(letters, [None])
            self.refused(letters, [])

    def test_length_of_the_list(self):
        self.refused(5, WORDS[:4])
        self.refused(5, WORDS + [None])
        self.refused(1, [])
        self.refused(2, [None])
        self.refused(1, [None, None])
        self.refused(19999, [None] * 20000)

    def test_no_list(self):
        for words in (None, 1, (None,), {0: None}, "0", ((),)):
            self.refused(1, words)

    def test_words(self):
        for word in ((), (0,), (1, 0, 1), (0, 0, 0, 0, 0, 0), (1, 1, 1, 1, 1, 1), None):
            self.assertEqual(Tag(2, [word, None]).table(), [word, None])
            self.assertEqual(Tag(2, [None, word]).word(1), word)

    def test_words_of_another_form(self):
        wrong = [
            [], [0], [0, 1], 0, True, False, "", "0", "01", b"01", {}, 1.5, {0: 1},
            (0, 0, 0, 0, 0, 0, 0), (0,) * 8, (1,) * 20,  # too long
            (2,), (-1,), (0, 2), (1, 1, -1), (10 ** 30,), (0, 1, 0, 1, 0, 2),  # no such letter
        ]
        for value in NO_NUMBERS:
            wrong += [(value,), (0, value), (value, 1, 1)]
        for word in wrong:
            self.refused(2, [word, None])
            self.refused(2, [None, word])
            self.refused(2, [(0, 1), word])

    def test_the_list_is_copied(self):
        words = list(WORDS)
        machine = Tag(5, words)
        words[0] = None
        words.append((1,))
        self.assertEqual(machine.table(), WORDS)
        self.assertEqual(machine.word(0), ())
        self.assertEqual(machine.step((0, 1, 2)), (2,))
        self.assertEqual(words, [None] + WORDS[1:] + [(1,)])


class TableTest(unittest.TestCase):
    def test_word(self):
        self.assertEqual([MACHINE.word(letter) for letter in range(5)], WORDS)

    def test_no_such_letter(self):
        for letter in (-1, 5, 6, 10 ** 30) + NO_NUMBERS:
            with self.assertRaises(BadMachine):
                MACHINE.word(letter)

    def test_table_is_new(self):
        table = MACHINE.table()
        self.assertEqual(table, WORDS)
        self.assertIsInstance(table, list)
        table[0] = None
        table.pop()
        self.assertEqual(MACHINE.table(), WORDS)
        self.assertEqual(MACHINE.word(0), ())
        self.assertIsNot(MACHINE.table(), MACHINE.table())


class ConfigurationTest(unittest.TestCase):
    def test_rows(self):
        for row in ((), (0,), (4,), (0, 0), (4, 3, 2, 1, 0), (4,) * 5000):
            self.assertIs(MACHINE.is_configuration(row), True)

    def test_others(self):
        for value in [[0], [], [0, 1], (5,), (-1,), (0, 5), (0, 1, -1), ((0,),), ("0",), "01", b"01", (10 ** 30,)]:
            self.assertIs(MACHINE.is_configuration(value), False)
        for value in WRONG_KINDS:
            self.assertIs(MACHINE.is_configuration(value), False)
        for value in NO_NUMBERS:
            self.assertIs(MACHINE.is_configuration((value,)), False)
            self.assertIs(MACHINE.is_configuration((0, value)), False)


class StepTest(unittest.TestCase):
    def check(self, row, after):
        self.assertEqual(MACHINE.step(row), after)
        self.assertIs(MACHINE.stopped(row), after is None)

    def test_the_empty_row(self):
        self.check((), None)
        self.assertEqual(MACHINE.run((), 5), ((), 0))

    def test_a_word_that_is_none(self):
        for row in ((4,), (4, 0), (4, 4, 4), (4, 1, 2, 3)):
            self.check(row, None)
            self.assertEqual(MACHINE.run(row, 5), (row, 0))

    def test_none_counts_only_in_front(self):
        self.check((0, 4, 4), (4,))
        self.check((1, 4), (2,))

    def test_an_empty_word(self):
        self.check((0,), ())
        self.check((0, 1), ())
        self.check((0, 1, 2), (2,))
        self.check((0, 0, 0, 4), (0, 4))

    def test_a_word_of_one_letter(self):
        self.check((1,), ())
        self.check((1, 0), (2,))
        self.check((1, 4, 3), (3, 2))

    def test_longer_words(self):
        self.check((2,), (4,))
        self.check((2, 0), (3, 4))
        self.check((2, 1, 0), (0, 3, 4))
        self.check((3,), (0, 2))
        self.check((3, 3), (1, 0, 2))
        self.check((3, 0, 4, 4), (4, 4, 1, 0, 2))

    def test_random_machines(self):
        random = Random(131)
        for _ in range(200):
            machine = random_tag(random, random.randrange(1, 7), 6)
            row = random_row(random, machine)
            for _ in range(20):
                after = plain_step(machine, row)
                self.assertEqual(machine.step(row), after)
                self.assertIs(machine.stopped(row), after is None)
                if after is None:
                    break
                self.assertTrue(machine.is_configuration(after))
                row = after


class RunTest(unittest.TestCase):
    def test_run(self):
        random = Random(132)
        for _ in range(150):
            machine = random_tag(random, random.randrange(1, 7), 4)
            check_step_and_run(self, machine, random_row(random, machine), 15)

    def test_no_steps(self):
        for row in ((), (0,), (4, 1), (2, 2, 2)):
            self.assertEqual(MACHINE.run(row, 0), (row, 0))

    def test_past_the_stop(self):
        machine = Tag(3, [(1, 2), (), None])
        self.assertEqual(machine.run((0, 0), 1), ((1, 2), 1))
        self.assertEqual(machine.run((0, 0), 2), ((), 2))
        self.assertEqual(machine.run((0, 0), 10 ** 12), ((), 2))
        self.assertEqual(machine.run((1, 0, 2), 10 ** 12), ((2,), 1))
        self.assertEqual(machine.run((2, 0), 10 ** 12), ((2, 0), 0))

    def test_long_rows(self):
        machine = Tag(2, [(1,), (0, 0, 0)])
        row = (0,) * 40000
        self.assertEqual(machine.run(row, 20000), ((1,) * 20000, 20000))
        self.assertEqual(machine.run(row, 30000), ((0,) * 30000, 30000))

    def test_a_row_that_does_not_change(self):
        machine = Tag(1, [(0, 0)])
        self.assertEqual(machine.run((0, 0, 0), 50000), ((0, 0, 0), 50000))


if __name__ == "__main__":
    unittest.main()
