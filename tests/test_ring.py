"""Rings of words: [9.2] to [9.4], and [0.4], [0.7] for them."""

import unittest
from random import Random

from stepdown.errors import BadMachine
from stepdown.ring import Ring
from tests.samples import NO_NUMBERS, WRONG_KINDS, check_step_and_run

WORDS = [(1, 0, 1), (), None, (0,)]
RING = Ring(WORDS)


def plain_step(words, configuration):
    """What [9.3] says."""
    bits, at = configuration
    if bits == () or (bits[0] == 1 and words[at] is None):
        return None
    after = list(bits)
    if after.pop(0) == 1:
        after += words[at]
    return tuple(after), (at + 1) % len(words) if after else 0


def random_words(random, many, longest=3, stops=0.1):
    words = []
    for _ in range(many):
        if random.random() < stops:
            words.append(None)
        else:
            words.append(tuple(random.randrange(2) for _ in range(random.randrange(longest + 1))))
    return words


def random_bits(random, longest=8):
    return tuple(random.randrange(2) for _ in range(random.randrange(longest + 1)))


class MakingTest(unittest.TestCase):
    def refused(self, words):
        with self.assertRaises(BadMachine):
            Ring(words)

    def test_number_of_words(self):
        self.refused([])
        self.assertEqual(Ring([None]).size, 1)
        self.assertEqual(Ring([()]).size, 1)
        self.assertEqual(RING.size, 4)
        self.assertEqual(Ring([(1, 0)] * 40000).size, 40000)
        self.refused([(1, 0)] * 40001)
        self.refused([None] * 40001)

    def test_no_list(self):
        for words in (None, 3, (), ((1, 0),), {0: (1,)}, "10", True):
            self.refused(words)

    def test_words_of_any_length(self):
        self.assertEqual(Ring([(1, 0) * 5000, ()]).table(), [(1, 0) * 5000, ()])

    def test_words_of_another_form(self):
        wrong = [
            [], [1, 0], 0, 1, -1, True, False, "", "10", b"10", {}, 1.5, {0: 1},
            (2,), (-1,), (0, 2), (1, 1, -1), (True,), (0, True), (False, 1), (1, 0, 10 ** 30), ((1,),),
        ]
        for value in NO_NUMBERS:
            wrong += [(value,), (1, value), (value, 0, 0)]
        for word in wrong:
            self.refused([word])
            self.refused([None, (1,), word])
            self.refused([word, ()])

    def test_the_list_is_copied(self):
        words = list(WORDS)
        ring = Ring(words)
        words[0] = None
        words.append(())
        self.assertEqual(ring.size, 4)
        self.assertEqual(ring.table(), WORDS)
        self.assertEqual(ring.step(((1,), 0)), ((1, 0, 1), 1))
        self.assertEqual(words, [None] + WORDS[1:] + [()])

    def test_table_is_new(self):
        table = RING.table()
        self.assertEqual(table, WORDS)
        self.assertIsInstance(table, list)
        table[0] = None
        table.pop()
        self.assertEqual(RING.table(), WORDS)
        self.assertEqual(RING.size, 4)
        self.assertIsNot(RING.table(), RING.table())


class ConfigurationTest(unittest.TestCase):
    def test_configurations(self):
        for value in (((), 0), ((0,), 0), ((1,), 3), ((0, 1, 0, 0), 2), ((1,) * 5000, 1)):
            self.assertIs(RING.is_configuration(value), True)

    def test_no_bits_and_another_number(self):
        for at in (1, 2, 3):
            self.assertIs(RING.is_configuration(((), at)), False)

    def test_others(self):
        wrong = [
            (), ((),), ((1,),), ((1,), 0, 0), [(1,), 0], ([1], 0), ([], 0), ("1", 0), (b"1", 0), (1, 0), (None, 0),
            ((1,), 4), ((1,), -1), ((1,), 10 ** 30), ((2,), 0), ((-1,), 0), ((0, 1, 2), 0), ((True,), 0), ((1, False), 0),
            ((), True), ((), False), ((1,), True), ((1,), None), ((1,), (0,)), (0, (1,)),
        ]
        for value in wrong:
            self.assertIs(RING.is_configuration(value), False, value)
        for value in WRONG_KINDS:
            self.assertIs(RING.is_configuration(value), False)
        for value in NO_NUMBERS:
            self.assertIs(RING.is_configuration(((value,), 0)), False)
            self.assertIs(RING.is_configuration(((1,), value)), False)


class StepTest(unittest.TestCase):
    def check(self, configuration, after):
        self.assertEqual(RING.step(configuration), after)
        self.assertIs(RING.stopped(configuration), after is None)

    def test_no_bits(self):
        self.check(((), 0), None)
        self.assertEqual(RING.run(((), 0), 5), (((), 0), 0))

    def test_a_0_in_front(self):
        self.check(((0, 1), 0), ((1,), 1))
        self.check(((0, 0, 1), 1), ((0, 1), 2))
        self.check(((0, 1), 2), ((1,), 3))

    def test_a_1_in_front(self):
        self.check(((1,), 0), ((1, 0, 1), 1))
        self.check(((1, 0), 0), ((0, 1, 0, 1), 1))
        self.check(((1, 0), 1), ((0,), 2))
        self.check(((1, 1), 3), ((1, 0), 0))

    def test_a_word_that_is_none(self):
        self.check(((1,), 2), None)
        self.check(((1, 0, 1), 2), None)
        self.assertEqual(RING.run(((1, 0, 1), 2), 5), (((1, 0, 1), 2), 0))

    def test_the_last_word(self):
        self.check(((0, 1), 3), ((1,), 0))
        self.check(((1, 1), 3), ((1, 0), 0))

    def test_the_last_bit(self):
        for at in range(4):
            self.check(((0,), at), ((), 0))
        self.check(((1,), 1), ((), 0))
        self.check(((1,), 3), ((0,), 0))
        self.assertEqual(Ring([(), ()]).step(((1,), 0)), ((), 0))

    def test_one_word(self):
        ring = Ring([(1,)])
        self.assertEqual(ring.step(((1, 0), 0)), ((0, 1), 0))
        self.assertEqual(ring.step(((0,), 0)), ((), 0))

    def test_random_rings(self):
        random = Random(151)
        for _ in range(200):
            words = random_words(random, random.randrange(1, 7))
            ring = Ring(words)
            bits = random_bits(random)
            configuration = bits, random.randrange(len(words)) if bits else 0
            for _ in range(25):
                after = plain_step(words, configuration)
                self.assertEqual(ring.step(configuration), after)
                self.assertIs(ring.stopped(configuration), after is None)
                if after is None:
                    break
                self.assertTrue(ring.is_configuration(after))
                configuration = after


class RunTest(unittest.TestCase):
    def test_run(self):
        random = Random(152)
        for _ in range(150):
            words = random_words(random, random.randrange(1, 7))
            bits = random_bits(random)
            check_step_and_run(self, Ring(words), (bits, random.randrange(len(words)) if bits else 0), 20)

    def test_no_steps(self):
        for configuration in (((), 0), ((1,), 2), ((0, 1), 3)):
            self.assertEqual(RING.run(configuration, 0), (configuration, 0))

    def test_past_the_stop(self):
        self.assertEqual(RING.run(((0, 0, 0), 2), 3), (((), 0), 3))
        self.assertEqual(RING.run(((0, 0, 0), 2), 10 ** 12), (((), 0), 3))
        self.assertEqual(RING.run(((0, 0, 1, 0), 0), 10 ** 12), (((1, 0), 2), 2))
        self.assertEqual(RING.run(((1, 0), 2), 10 ** 12), (((1, 0), 2), 0))

    def test_long_rows(self):
        ring = Ring([(0,), (1,), ()])
        self.assertEqual(ring.run(((1,) * 30000, 0), 30000), (((0, 1) * 10000, 0), 30000))
        self.assertEqual(Ring([(1,)]).run(((1,) * 3, 0), 50000), (((1,) * 3, 0), 50000))


if __name__ == "__main__":
    unittest.main()
