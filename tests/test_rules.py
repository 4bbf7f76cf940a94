"""Rules on strings: [10.2] to [10.5], and [0.4], [0.7] for them."""

import unittest
from random import Random

from stepdown.errors import BadMachine, BadPlace, TooMany
from stepdown.rules import Rules
from tests.samples import NO_NUMBERS, check_step_and_run

RULES = [("aa", "b"), ("b", ""), ("ab", "ba")]
MACHINE = Rules(RULES)


def plain_places(rules, string):
    """What [10.3] says."""
    return [
        (rule, at) for rule, (old, _) in enumerate(rules) for at in range(len(string) + 1)
        if string[at:at + len(old)] == old
    ]


def plain_applied(rules, string, rule, at):
    old, new = rules[rule]
    return string[:at] + new + string[at + len(old):]


def plain_reached(rules, string, steps):
    """What [10.5] says, by all ways."""
    if steps == 0:
        return {string}
    found = set()
    for rule, at in plain_places(rules, string):
        found |= plain_reached(rules, plain_applied(rules, string, rule, at), steps - 1)
    return found


def random_string(random, longest, letters="ab"):
    return "".join(random.choice(letters) for _ in range(random.randrange(longest + 1)))


def random_rules(random):
    return [(random_string(random, 2) + random.choice("ab"), random_string(random, 3)) for _ in range(random.randrange(5))]


class MakingTest(unittest.TestCase):
    def refused(self, rules):
        with self.assertRaises(BadMachine):
            Rules(rules)

    def test_number_of_rules(self):
        self.assertEqual(Rules([]).table(), [])
        self.assertEqual(Rules([("a", "")]).table(), [("a", "")])
        rules = [("a", "b")] * 20000
        self.assertEqual(Rules(rules).table(), rules)
        self.refused(rules + [("a", "b")])
        self.refused(rules * 2)

    def test_no_list(self):
        for rules in (None, 3, (), (("a", "b"),), {"a": "b"}, "ab", True):
            self.refused(rules)

    def test_members_of_another_form(self):
        wrong = [
            ["a", "b"], ("a",), ("a", "b", "c"), (), "ab", "a", "", b"ab", 0, True, None, {}, {"a": "b"},
            ("", "a"), ("", ""), (0, "a"), ("a", 0), (None, "a"), ("a", None), (b"a", "a"), ("a", b"a"),
            (("a",), "b"), ("a", ["b"]), (True, "a"), ("a", False), (["a"], "b"),
        ]
        for rule in wrong:
            self.refused([rule])
            self.refused([("a", "b"), rule])
            self.refused([rule, ("a", "b")])

    def test_the_same_rule_twice(self):
        self.assertEqual(Rules([("a", "b"), ("a", "b")]).places("a"), [(0, 0), (1, 0)])

    def test_the_list_is_copied(self):
        rules = list(RULES)
        machine = Rules(rules)
        rules[0] = ("aa", "c")
        rules.append(("x", "y"))
        self.assertEqual(machine.table(), RULES)
        self.assertEqual(machine.step("aa"), "b")
        self.assertEqual(machine.places("x"), [])
        self.assertEqual(rules, [("aa", "c")] + RULES[1:] + [("x", "y")])

    def test_table_is_new(self):
        table = MACHINE.table()
        self.assertEqual(table, RULES)
        self.assertIsInstance(table, list)
        table.clear()
        self.assertEqual(MACHINE.table(), RULES)
        self.assertIsNot(MACHINE.table(), MACHINE.table())


class PlacesTest(unittest.TestCase):
    def test_overlapping_places(self):
        self.assertEqual(Rules([("aa", "b")]).places("aaaa"), [(0, 0), (0, 1), (0, 2)])
        self.assertEqual(Rules([("aba", "")]).places("ababa"), [(0, 0), (0, 2)])
        self.assertEqual(Rules([("a", "aa")]).places("aba"), [(0, 0), (0, 2)])

    def test_several_rules(self):
        self.assertEqual(MACHINE.places("aab"), [(0, 0), (1, 2), (2, 1)])
        self.assertEqual(MACHINE.places("baab"), [(0, 1), (1, 0), (1, 3), (2, 2)])
        self.assertEqual(Rules([("b", ""), ("a", "")]).places("ab"), [(0, 1), (1, 0)])

    def test_no_places(self):
        self.assertEqual(MACHINE.places(""), [])
        self.assertEqual(MACHINE.places("a"), [])
        self.assertEqual(MACHINE.places("xyz"), [])
        self.assertEqual(Rules([]).places("ab"), [])
        self.assertEqual(Rules([("abc", "a")]).places("ab"), [])

    def test_the_whole_string(self):
        self.assertEqual(Rules([("abc", "")]).places("abc"), [(0, 0)])

    def test_random_machines(self):
        random = Random(171)
        for _ in range(300):
            rules = random_rules(random)
            string = random_string(random, 12)
            self.assertEqual(Rules(rules).places(string), plain_places(rules, string))

    def test_many_rules(self):
        machine = Rules([(f"<{at}>", "") for at in range(20000)])
        self.assertEqual(machine.places("<19999>x<7><19999>"), [(7, 8), (19999, 0), (19999, 11)])


class AppliedTest(unittest.TestCase):
    def test_each_place(self):
        self.assertEqual(MACHINE.applied("aab", 0, 0), "bb")
        self.assertEqual(MACHINE.applied("aab", 1, 2), "aa")
        self.assertEqual(MACHINE.applied("aab", 2, 1), "aba")
        self.assertEqual(Rules([("aa", "b")]).applied("aaaa", 0, 1), "aba")
        self.assertEqual(Rules([("aa", "b")]).applied("aaaa", 0, 2), "aab")
        self.assertEqual(Rules([("abc", "")]).applied("abc", 0, 0), "")

    def test_random_machines(self):
        random = Random(172)
        for _ in range(100):
            rules = random_rules(random)
            string = random_string(random, 7)
            places = plain_places(rules, string)
            machine = Rules(rules)
            for rule in range(-2, len(rules) + 2):
                for at in range(-9, 10):
                    if (rule, at) in places:
                        self.assertEqual(machine.applied(string, rule, at), plain_applied(rules, string, rule, at))
                    else:
                        with self.assertRaises(BadPlace):
                            machine.applied(string, rule, at)

    def refused(self, string, rule, at):
        with self.assertRaises(BadPlace):
            MACHINE.applied(string, rule, at)

    def test_another_place(self):
        for rule, at in ((0, 1), (0, 2), (0, 3), (1, 0), (2, 0), (3, 0), (-1, 0), (-2, 2), (0, -3), (1, -1), (10 ** 30, 0)):
            self.refused("aab", rule, at)
        self.refused("aab", 1, 10 ** 30)
        self.refused("", 0, 0)
        with self.assertRaises(BadPlace):
            Rules([]).applied("a", 0, 0)

    def test_values_that_are_no_integers(self):
        for value in NO_NUMBERS:
            self.refused("baab", value, 0)
            self.refused("aab", 0, value)
        # True and False would be the pairs (1, 0) and (0, 0), were they integers.
        self.assertEqual(MACHINE.applied("baa", 1, 0), "aa")
        self.refused("baa", True, 0)
        self.refused("aab", 0, False)


class StepTest(unittest.TestCase):
    def test_the_first_rule_at_its_first_place(self):
        self.assertEqual(MACHINE.step("baab"), "bbb")
        self.assertEqual(MACHINE.step("abaa"), "abb")
        self.assertEqual(MACHINE.step("bab"), "ab")
        self.assertEqual(MACHINE.step("aaaa"), "baa")
        self.assertEqual(Rules([("ab", "ba"), ("b", "")]).step("bab"), "bba")

    def test_an_empty_new(self):
        self.assertEqual(MACHINE.step("b"), "")
        self.assertEqual(Rules([("ab", "")]).step("aabb"), "ab")

    def test_stopped(self):
        for string in ("", "a", "c", "xyz"):
            self.assertIsNone(MACHINE.step(string))
            self.assertIs(MACHINE.stopped(string), True)
            self.assertEqual(MACHINE.run(string, 5), (string, 0))
        for string in ("aa", "b", "cab"):
            self.assertIs(MACHINE.stopped(string), False)

    def test_the_empty_list(self):
        for string in ("", "a", "abab"):
            self.assertIsNone(Rules([]).step(string))
            self.assertIs(Rules([]).stopped(string), True)

    def test_random_machines(self):
        random = Random(173)
        for _ in range(200):
            rules = random_rules(random)
            string = random_string(random, 9)
            places = plain_places(rules, string)
            after = plain_applied(rules, string, *places[0]) if places else None
            self.assertEqual(Rules(rules).step(string), after)

    def test_run(self):
        random = Random(174)
        for _ in range(100):
            check_step_and_run(self, Rules(random_rules(random)), random_string(random, 6), 8)

    def test_past_the_stop(self):
        self.assertEqual(MACHINE.run("aab", 1), ("bb", 1))
        self.assertEqual(MACHINE.run("aab", 3), ("", 3))
        self.assertEqual(MACHINE.run("aab", 10 ** 12), ("", 3))
        self.assertEqual(MACHINE.run("aab", 0), ("aab", 0))


class ReachedTest(unittest.TestCase):
    def test_no_steps(self):
        for string in ("", "a", "aab", "xyz"):
            self.assertEqual(MACHINE.reached(string, 0), [string])

    def test_some_steps(self):
        self.assertEqual(MACHINE.reached("aab", 1), ["aa", "aba", "bb"])
        self.assertEqual(MACHINE.reached("aab", 2), ["aa", "b", "baa"])
        self.assertEqual(MACHINE.reached("aab", 3), ["", "aa", "b", "bb"])
        self.assertEqual(MACHINE.reached("a", 1), [])
        self.assertEqual(MACHINE.reached("a", 100), [])
        self.assertEqual(Rules([]).reached("ab", 1), [])

    def test_several_ways_to_one_string(self):
        machine = Rules([("a", "b")])
        self.assertEqual(machine.reached("aaa", 1), ["aab", "aba", "baa"])
        self.assertEqual(machine.reached("aaa", 2), ["abb", "bab", "bba"])
        self.assertEqual(machine.reached("aaa", 3), ["bbb"])
        self.assertEqual(machine.reached("aaa", 4), [])
        self.assertEqual(Rules([("a", "a"), ("aa", "aa")]).reached("aa", 50), ["aa"])

    def test_random_machines(self):
        random = Random(175)
        for _ in range(100):
            rules = random_rules(random)
            string = random_string(random, 5)
            for steps in range(4):
                expected = sorted(plain_reached(rules, string, steps))
                self.assertEqual(Rules(rules).reached(string, steps), expected)

    def test_2000_strings(self):
        machine = Rules([("a", "b")])
        self.assertEqual(len(machine.reached("a" * 2000, 1)), 2000)
        with self.assertRaises(TooMany):
            machine.reached("a" * 2001, 1)
        machine = Rules([("ax", "b")])
        strings = machine.reached("ax" * 63, 2)
        self.assertEqual(len(strings), 63 * 62 // 2)
        with self.assertRaises(TooMany):
            machine.reached("ax" * 64, 2)

    def test_too_many_on_the_way(self):
        # In the end there is only one string again.
        machine = Rules([("a", "b")])
        self.assertEqual(machine.reached("a" * 13, 13), ["b" * 13])
        with self.assertRaises(TooMany):
            machine.reached("a" * 14, 14)
        self.assertEqual(len(machine.reached("a" * 14, 4)), 1001)
        with self.assertRaises(TooMany):
            machine.reached("a" * 14, 5)


if __name__ == "__main__":
    unittest.main()
