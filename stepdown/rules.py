"""Machines that replace strings by other ones."""

from stepdown.checks import is_number
from stepdown.errors import BadMachine, BadPlace, TooMany
from stepdown.running import run_by_steps

MOST_RULES = 20000
MOST_STRINGS = 2000


def is_rule(value):
    """Whether a value is a tuple of two strings, the first one not empty."""
    if not isinstance(value, tuple) or len(value) != 2:
        return False
    old, new = value
    return isinstance(old, str) and isinstance(new, str) and old != ""


class Rules:
    """A machine on a string: each rule replaces one string by another one, wherever it occurs."""

    def __init__(self, rules):
        if not isinstance(rules, list) or len(rules) > MOST_RULES:
            raise BadMachine("a rule machine has a list of at most 20000 rules")
        for rule in rules:
            if not is_rule(rule):
                raise BadMachine("a rule is a tuple of two strings, the first one not empty")
        self._rules = list(rules)

    def table(self):
        """A new list of all rules."""
        return list(self._rules)

    def places(self, configuration):
        """All pairs of a rule and a place where it can be applied, in ascending order."""
        found = []
        for rule, (old, _) in enumerate(self._rules):
            at = configuration.find(old)
            while at != -1:
                found.append((rule, at))
                at = configuration.find(old, at + 1)
        return found

    def applied(self, configuration, rule, at):
        """The string in which a rule is applied at a place."""
        if not is_number(rule, 0, len(self._rules) - 1) or not is_number(at, 0, len(configuration) - 1):
            raise BadPlace("there is no such rule or place")
        old, new = self._rules[rule]
        if not configuration.startswith(old, at):
            raise BadPlace("the rule cannot be applied at this place")
        return configuration[:at] + new + configuration[at + len(old):]

    def reached(self, configuration, steps):
        """All strings to which so many applications of rules lead, in ascending order."""
        strings = [configuration]
        for _ in range(steps):
            strings = self._after(strings)
        return strings

    def _after(self, strings):
        """All strings to which one application of a rule leads from these, in ascending order."""
        found = set()
        for string in strings:
            for rule, at in self.places(string):
                found.add(self.applied(string, rule, at))
                if len(found) > MOST_STRINGS:
                    raise TooMany("rules lead to at most 2000 strings")
        return sorted(found)

    def stopped(self, configuration):
        """Whether the machine has stopped in a string."""
        return self.step(configuration) is None

    def step(self, configuration):
        """The string after one step, or None."""
        for old, new in self._rules:
            if old in configuration:
                return configuration.replace(old, new, 1)
        return None

    def run(self, configuration, steps):
        """The string after at most so many steps, and their number."""
        return run_by_steps(self, configuration, steps)
