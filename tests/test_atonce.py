"""Loops of counter machines: [5.11] to [5.15], and [0.7] for them."""

import unittest
from random import Random

from stepdown.atonce import at_once, loop_at, repeats, rounds
from stepdown.counters import Counters
from stepdown.counterstair import CounterStair
from stepdown.stacks import Stacks
from stepdown.stackstair import StackStair
from tests.samples import ADD_ONE, BEAVER, random_counters, random_side, random_stacks

GREAT = 10 ** 12
# Adds counter 0 to counter 1.
ADDS = Counters(2, [("dec", 0, 1, 2), ("inc", 1, 0), None])
# Counts counter 0 down by three in a loop of four states, and counter 1 up.
BY_THREE = Counters(2, [("dec", 0, 1, 4), ("dec", 0, 2, 4), ("dec", 0, 3, 4), ("inc", 1, 0), None])
# Counter 0 goes up and down by turns, and down by one in each round; counter 1 goes up.
UP_AND_DOWN = Counters(2, [("inc", 0, 1), ("dec", 0, 2, 5), ("inc", 1, 3), ("dec", 0, 0, 4), ("inc", 1, 4), None])
EXAMPLE = CounterStair(Stacks([("pop", 0, 0, 1), ("push", 1, 1, 0)]))


def way(machine, state):
    """The states on the way from a state, as long as they are different, and the one behind them or None."""
    found = []
    while state is not None and state not in found:
        found.append(state)
        row = machine.row(state)
        state = None if row is None else row[2]
    return found, state


def plain_rounds(machine, configuration, most):
    """How many whole rounds are taken one by one, at most so many."""
    found, behind = way(machine, configuration[0])
    if behind != configuration[0]:
        return 0
    for done in range(most):
        for _ in found:
            row = machine.row(configuration[0])
            if row[0] == "dec" and configuration[1][row[1]] == 0:
                return done
            configuration = machine.step(configuration)
    return most


def random_machine(random):
    count, states = random.randrange(1, 5), random.choice((1, 2, 3, 4, 6, 9))
    return random_counters(random, count, states, random.choice((0, 0.1, 0.3)))


class LoopTest(unittest.TestCase):
    def test_one_state(self):
        self.assertEqual(loop_at(Counters(1, [("inc", 0, 0)]), 0), [0])
        self.assertEqual(loop_at(Counters(1, [None, ("dec", 0, 1, 0)]), 1), [1])
        self.assertIsNone(loop_at(Counters(1, [None, ("dec", 0, 0, 1)]), 1))

    def test_several_states(self):
        self.assertEqual(loop_at(ADDS, 0), [0, 1])
        self.assertEqual(loop_at(ADDS, 1), [1, 0])
        self.assertEqual(loop_at(BY_THREE, 0), [0, 1, 2, 3])
        self.assertEqual(loop_at(BY_THREE, 2), [2, 3, 0, 1])
        machine = Counters(1, [("inc", 0, 3), ("dec", 0, 0, 0), ("inc", 0, 1), ("inc", 0, 2)])
        self.assertEqual(loop_at(machine, 2), [2, 1, 0, 3])

    def test_a_way_that_ends(self):
        self.assertIsNone(loop_at(ADDS, 2))
        machine = Counters(1, [("inc", 0, 1), ("dec", 0, 2, 0), None])
        for state in (0, 1, 2):
            self.assertIsNone(loop_at(machine, state))

    def test_a_way_that_comes_back_to_another_state(self):
        machine = Counters(1, [("inc", 0, 1), ("dec", 0, 2, 0), ("inc", 0, 1), ("dec", 0, 3, 0), ("inc", 0, 3)])
        self.assertIsNone(loop_at(machine, 0))
        self.assertEqual(loop_at(machine, 1), [1, 2])
        self.assertEqual(loop_at(machine, 3), [3])
        self.assertIsNone(loop_at(machine, 4))

    def test_only_first_states_count(self):
        machine = Counters(1, [("dec", 0, 1, 0), None])
        self.assertIsNone(loop_at(machine, 0))

    def test_random_machines(self):
        random = Random(71)
        seen = 0
        for _ in range(300):
            machine = random_machine(random)
            for state in range(machine.states):
                found, behind = way(machine, state)
                expected = found if behind == state else None
                self.assertEqual(loop_at(machine, state), expected)
                seen += expected is not None and len(expected) > 1
        self.assertGreater(seen, 100)

    def test_a_new_list(self):
        loop = loop_at(ADDS, 0)
        loop.clear()
        self.assertEqual(loop_at(ADDS, 0), [0, 1])

    def test_the_longest_loop(self):
        states = 40000
        machine = Counters(1, [("inc", 0, (at + 1) % states) for at in range(states)])
        self.assertEqual(loop_at(machine, 39999), [39999] + list(range(39999)))


class RoundsTest(unittest.TestCase):
    def test_no_loop(self):
        self.assertEqual(rounds(ADDS, (2, (5, 5))), 0)
        machine = Counters(1, [("inc", 0, 1), ("inc", 0, 1)])
        self.assertEqual(rounds(machine, (0, (5,))), 0)

    def test_no_dec_that_finds_0(self):
        self.assertEqual(rounds(Counters(1, [("inc", 0, 0)]), (0, (0,))), -1)
        even = Counters(1, [("inc", 0, 1), ("dec", 0, 0, 0)])
        self.assertEqual(rounds(even, (0, (0,))), -1)
        self.assertEqual(rounds(even, (1, (1,))), -1)
        self.assertEqual(rounds(even, (1, (0,))), 0)
        gains = Counters(1, [("inc", 0, 1), ("inc", 0, 2), ("dec", 0, 0, 0)])
        self.assertEqual(rounds(gains, (2, (1,))), -1)
        self.assertEqual(rounds(gains, (2, (0,))), 0)

    def test_counters_that_go_down_by_one(self):
        for number in (0, 1, 2, 3, 7, GREAT, 10 ** 100):
            self.assertEqual(rounds(ADDS, (0, (number, 4))), number)
            self.assertEqual(rounds(ADDS, (1, (number, 4))), number)
            self.assertEqual(rounds(Counters(1, [("dec", 0, 0, 0)]), (0, (number,))), number)

    def test_counters_that_go_down_by_several(self):
        for number in (0, 1, 2, 3, 4, 5, 6, 7, 8, 9, GREAT, GREAT + 1, GREAT + 2, 10 ** 100):
            for state in range(4):
                self.assertEqual(rounds(BY_THREE, (state, (number, 0))), number // 3)

    def test_a_counter_that_goes_up_and_down(self):
        for number in (0, 1, 2, 3, 4, GREAT):
            # A round needs as much as it takes: up by one, and down by two.
            self.assertEqual(rounds(UP_AND_DOWN, (0, (number, 0))), number)
            self.assertEqual(rounds(UP_AND_DOWN, (1, (number, 0))), max(0, number - 1))
            self.assertEqual(rounds(UP_AND_DOWN, (3, (number, 0))), number)

    def test_the_scarcer_of_two_counters(self):
        machine = Counters(2, [("dec", 0, 1, 0), ("dec", 1, 2, 0), ("dec", 1, 0, 0)])
        for first in range(8):
            for second in range(8):
                self.assertEqual(rounds(machine, (0, (first, second))), min(first, second // 2))
        self.assertEqual(rounds(machine, (0, (GREAT, 10 * GREAT))), GREAT)
        self.assertEqual(rounds(machine, (0, (10 * GREAT, 2 * GREAT + 1))), GREAT)

    def test_a_counter_that_is_0_at_the_start(self):
        self.assertEqual(rounds(ADDS, (0, (0, 9))), 0)
        self.assertEqual(rounds(UP_AND_DOWN, (0, (0, 0))), 0)
        machine = Counters(2, [("inc", 0, 1), ("dec", 0, 2, 0), ("dec", 1, 0, 0)])
        self.assertEqual(rounds(machine, (0, (0, 5))), 5)
        self.assertEqual(rounds(machine, (1, (0, 5))), 0)

    def test_random_machines(self):
        random = Random(72)
        seen = {"none": 0, "some": 0, "no end": 0}
        for _ in range(3000):
            machine = random_machine(random)
            counters = tuple(random.choice((0, 1, 2, 3, 5, 8)) for _ in range(machine.count))
            configuration = (random.randrange(machine.states), counters)
            expected = plain_rounds(machine, configuration, 20)
            if expected == 20:
                expected = -1
            self.assertEqual(rounds(machine, configuration), expected)
            seen[{0: "none", -1: "no end"}.get(expected, "some")] += 1
        self.assertGreater(min(seen.values()), 100)


class RepeatsTest(unittest.TestCase):
    def test_changes_that_find_0(self):
        # A change (counter, 0) is a "dec" that finds 0.
        self.assertEqual(repeats([(0, 0)], (0,)), -1)
        self.assertEqual(repeats([(0, 0)], (1,)), 0)
        self.assertEqual(repeats([(0, 0), (0, 1)], (0,)), 1)
        self.assertEqual(repeats([(0, 1), (0, -1), (0, 0)], (0,)), -1)
        self.assertEqual(repeats([(0, -1), (0, 0)], (1,)), 1)
        self.assertEqual(repeats([(0, -1), (0, 0)], (2,)), 0)
        self.assertEqual(repeats([(0, 0), (1, -1)], (0, 7)), 7)
        self.assertEqual(repeats([(0, 0), (1, -1), (0, 1)], (0, 7)), 1)
        self.assertEqual(repeats([(0, 0), (0, 1), (1, -1)], (0, 0)), 0)


class AtOnceTest(unittest.TestCase):
    def check(self, machine, configuration, steps):
        self.assertEqual(at_once(machine, configuration, steps), machine.run(configuration, steps))

    def test_no_steps(self):
        for configuration in ((0, (5, 5)), (1, (0, 0)), (2, (5, 5))):
            self.assertEqual(at_once(ADDS, configuration, 0), (configuration, 0))

    def test_all_small_numbers_of_steps(self):
        for machine in (ADDS, BY_THREE, UP_AND_DOWN):
            for state in range(machine.states):
                for first in (0, 1, 2, 5, 10):
                    for steps in range(70):
                        self.check(machine, (state, (first, 2)), steps)

    def test_random_machines(self):
        random = Random(73)
        stopped = 0
        for _ in range(3000):
            machine = random_machine(random)
            counters = tuple(random.choice((0, 1, 2, 3, 7, 20, 50)) for _ in range(machine.count))
            configuration = (random.randrange(machine.states), counters)
            for steps in (random.randrange(12), random.randrange(80), random.randrange(400)):
                self.check(machine, configuration, steps)
                stopped += machine.run(configuration, steps)[1] < steps
        self.assertGreater(stopped, 1000)

    def test_great_counters(self):
        self.assertEqual(at_once(ADDS, (0, (GREAT, 3)), 10 * GREAT), ((2, (0, GREAT + 3)), 2 * GREAT + 1))
        self.assertEqual(at_once(ADDS, (0, (GREAT, 3)), 2 * GREAT + 1), ((2, (0, GREAT + 3)), 2 * GREAT + 1))
        self.assertEqual(at_once(ADDS, (0, (GREAT, 3)), 2 * GREAT), ((0, (0, GREAT + 3)), 2 * GREAT))
        self.assertEqual(at_once(ADDS, (0, (10 ** 100, 0)), 10 ** 101), ((2, (0, 10 ** 100)), 2 * 10 ** 100 + 1))

    def test_great_numbers_of_steps_that_end_within_a_round(self):
        # Before the last four rounds.
        for more in range(16):
            steps = 4 * (GREAT - 4) + more
            state, (first, second) = BY_THREE.run((0, (12, 0)), more)[0]
            expected = (state, (first, second + GREAT - 4)), steps
            self.assertEqual(at_once(BY_THREE, (0, (3 * GREAT, 0)), steps), expected)

    def test_past_the_stop(self):
        self.assertEqual(at_once(ADDS, (2, (5, 5)), GREAT), ((2, (5, 5)), 0))
        self.assertEqual(at_once(ADDS, (0, (2, 1)), GREAT), ((2, (0, 3)), 5))
        self.assertEqual(at_once(BY_THREE, (0, (3 * GREAT + 2, 0)), 10 ** 40), ((4, (0, GREAT)), 4 * GREAT + 3))

    def test_loops_without_end(self):
        self.assertEqual(at_once(Counters(1, [("inc", 0, 0)]), (0, (3,)), GREAT), ((0, (GREAT + 3,)), GREAT))
        even = Counters(2, [("inc", 0, 1), ("dec", 0, 2, 2), ("inc", 1, 0)])
        for steps, after in ((3 * GREAT, (0, (0, GREAT))), (3 * GREAT + 1, (1, (1, GREAT))),
                             (3 * GREAT + 2, (2, (0, GREAT)))):
            self.assertEqual(at_once(even, (0, (0, 0)), steps), (after, steps))

    def test_loops_without_end_in_which_a_counter_is_always_0(self):
        self.assertEqual(at_once(Counters(1, [("dec", 0, 0, 0)]), (0, (5,)), GREAT), ((0, (0,)), GREAT))
        machine = Counters(2, [("dec", 0, 1, 1), ("inc", 1, 0)])
        self.assertEqual(at_once(machine, (0, (0, 0)), 2 * GREAT + 1), ((1, (0, GREAT)), 2 * GREAT + 1))
        self.assertEqual(at_once(machine, (0, (7, 0)), 2 * GREAT), ((0, (0, GREAT)), 2 * GREAT))
        # The example goes on popping zeros.
        steps = EXAMPLE.pace((0, (1,), ())) + EXAMPLE.pace((1, (), ())) + 2 * GREAT
        self.assertEqual(at_once(EXAMPLE.lower, (0, (1, 0, 0)), steps), ((0, (0, 1, 0)), steps))

    def test_a_run_that_comes_back_to_an_earlier_configuration(self):
        # Counter 0 is carried to counter 1 and back, without end.
        machine = Counters(2, [("dec", 0, 1, 2), ("inc", 1, 0), ("dec", 1, 3, 0), ("inc", 0, 2)])
        period = 4 * 6 + 2
        for more in range(period):
            for start in ((0, (5, 1)), (3, (5, 0)), (2, (1, 5))):
                self.check(machine, start, 5 * period + more)
                after, _ = machine.run(start, 5 * period + more)
                steps = 5 * period + more + period * 10 ** 40
                self.assertEqual(at_once(machine, start, steps), (after, steps))

    def test_long_loops_with_great_numbers(self):
        states = 4000
        rows = [("dec", 0, at + 1, states) for at in range(states - 1)] + [("dec", 0, 0, states), None]
        machine = Counters(1, rows)
        self.assertEqual(at_once(machine, (0, (GREAT,)), 10 ** 20), ((states, (0,)), GREAT + 1))
        self.assertEqual(at_once(machine, (7, (GREAT,)), GREAT - 5), (((GREAT + 2) % states, (5,)), GREAT - 5))

    def test_the_configuration_that_was_passed(self):
        configuration = (0, (5, 5))
        at_once(ADDS, configuration, 100)
        rounds(ADDS, configuration)
        self.assertEqual(configuration, (0, (5, 5)))


class StairTest(unittest.TestCase):
    def test_stacks_of_many_bits(self):
        random = Random(74)
        for _ in range(60):
            upper = random_stacks(random, random.randrange(1, 7))
            stair = CounterStair(upper)
            for longest in (3, 40, 300):
                stacks = (random_side(random, 2, longest), random_side(random, 2, longest))
                configuration = (random.randrange(upper.states),) + stacks
                after = upper.step(configuration)
                pace = stair.pace(configuration)
                found = at_once(stair.lower, stair.down(configuration), pace)
                if after is None:
                    self.assertEqual(found, (stair.down(configuration), 0))
                else:
                    self.assertEqual(found, (stair.down(after), pace))

    def test_very_long_stacks(self):
        bits = (1, 0, 0) * 2000 + (1,)
        for row in (("push", 0, 0, 1), ("push", 0, 1, 1), ("pop", 0, 1, 1)):
            stair = CounterStair(Stacks([row, None]))
            configuration = (0, bits, (1,))
            pace = stair.pace(configuration)
            after = stair.upper.step(configuration)
            self.assertEqual(at_once(stair.lower, stair.down(configuration), pace), (stair.down(after), pace))

    def test_whole_runs(self):
        for machine, begin in ((BEAVER, (0, (), 0, ())), (ADD_ONE, (0, (), 1, (1,) * 60))):
            stacks = StackStair(machine)
            counters = CounterStair(stacks.lower)
            after, _ = stacks.lower.run(stacks.down(begin), 10 ** 6)
            start = counters.down(stacks.down(begin))
            found, taken = at_once(counters.lower, start, 10 ** 60)
            self.assertEqual(counters.up(found), after)
            self.assertLess(taken, 10 ** 60)
            self.assertEqual(at_once(counters.lower, start, taken), (found, taken))
            self.assertFalse(counters.lower.stopped(at_once(counters.lower, start, taken - 1)[0]))

    def test_the_example(self):
        stair = EXAMPLE
        self.assertEqual(stair.upper.run((0, (1, 1), ()), 1), ((1, (1,), ()), 1))
        self.assertEqual(stair.upper.run((0, (1, 1), ()), 2), ((0, (1,), (1,)), 2))
        self.assertEqual(stair.down((0, (1, 1), ())), (0, (3, 0, 0)))
        self.assertEqual(stair.pace((0, (1, 1), ())), 8)
        self.assertEqual(stair.lower.run((0, (3, 0, 0)), 8), ((7, (1, 0, 0)), 8))
        self.assertEqual(at_once(stair.lower, (0, (3, 0, 0)), 8), ((7, (1, 0, 0)), 8))
        self.assertEqual(loop_at(stair.lower, 0), [0, 1, 2])
        self.assertEqual(rounds(stair.lower, (0, (3, 0, 0))), 1)


if __name__ == "__main__":
    unittest.main()
