"""Chains of stairs, each of which begins with the machine at which the one before it ends."""

from stepdown.cells import Cells
from stepdown.cellstair import CellStair
from stepdown.counters import Counters
from stepdown.counterstair import CounterStair
from stepdown.errors import BadChain
from stepdown.ratios import Ratios
from stepdown.ratiostair import RatioStair
from stepdown.ring import Ring
from stepdown.ringstair import RingStair
from stepdown.rules import Rules
from stepdown.rulestair import RuleStair
from stepdown.stacks import Stacks
from stepdown.stackstair import StackStair
from stepdown.tag import Tag
from stepdown.tagstair import TagStair
from stepdown.tape import Tape
from stepdown.twomarks import TwoMarks
from stepdown.upstair import UpStair

# The names of the stairs, in ascending order: the kinds of machines from which and to which they lead.
# A tape machine with two marks is a kind of its own, from which all stairs lead that lead from a tape.
STAIRS = {
    "cells": ("tape", "cells"),
    "counters": ("stacks", "counters"),
    "marks": ("tape", "two marks"),
    "ratios": ("counters", "ratios"),
    "ring": ("tag", "ring"),
    "rules": ("tape", "rules"),
    "stacks": ("two marks", "stacks"),
    "tag": ("two marks", "tag"),
    "tape": ("counters", "tape"),
}


class Chain:
    """A stair that is made of several ones."""

    def __init__(self, machine, names):
        check_names(tape_kind(machine.marks), names)
        stairs = []
        lower = machine
        for name in names:
            stair = stair_from(lower, name)
            stairs.append(stair)
            lower = stair.lower
        self.upper = machine
        self.lower = lower
        self.stairs = tuple(stairs)

    def down(self, configuration):
        """The lowest configuration that belongs to an upper one."""
        for stair in self.stairs:
            configuration = stair.down(configuration)
        return configuration

    def up(self, configuration):
        """The upper configuration to which a lowest one belongs, or None."""
        for stair in self.stairs[::-1]:
            configuration = stair.up(configuration)
            if configuration is None:
                return None
        return configuration

    def pace(self, configuration):
        """How many steps of the lowest machine one upper step takes."""
        return lowest_steps(self.stairs, configuration, 1)

    def ending(self, configuration):
        """After how many steps the lowest machine stops where the upper one has stopped."""
        if not self.upper.stopped(configuration):
            return 0
        total = 0
        for level, stair in enumerate(self.stairs[:-1]):
            steps = stair.ending(configuration)
            configuration = stair.down(configuration)
            total += lowest_steps(self.stairs[level + 1:], configuration, steps)
            configuration, _ = stair.lower.run(configuration, steps)
        return total + self.stairs[-1].ending(configuration)

    def trail(self, configuration, steps):
        """The upper configurations of a run, each behind the number of lowest steps that lead to it."""
        taken = 0
        found = [(taken, configuration)]
        for _ in range(steps):
            after = self.upper.step(configuration)
            if after is None:
                break
            taken += self.pace(configuration)
            configuration = after
            found.append((taken, configuration))
        return found


def lowest_steps(stairs, configuration, steps):
    """How many steps of the lowest machine so many upper steps take, all of which can be taken."""
    total = 0
    # What is still to be counted: so many steps from a configuration of a stair's upper machine.
    pending = [(0, configuration, steps)]
    while pending:
        level, at, left = pending.pop()
        if left == 0:
            continue
        stair = stairs[level]
        if left > 1:
            pending.append((level, stair.upper.step(at), left - 1))
        if level == len(stairs) - 1:
            total += stair.pace(at)
        else:
            pending.append((level + 1, stair.down(at), stair.pace(at)))
    return total


def tape_kind(marks):
    """The kind of a tape machine with so many marks, as far as stairs go."""
    return "two marks" if marks == 2 else "tape"


def kind_after(before, name):
    """The kind of machine to which the stair with a name leads from this kind, or None if it cannot begin there."""
    if name not in STAIRS:
        return None
    needed, after = STAIRS[name]
    fits = needed == before or (needed == "tape" and before == "two marks")
    return after if fits else None


def check_names(before, names):
    """Raises an error unless the stairs with these names make a chain that begins with this kind of machine."""
    if len(names) == 0:
        raise BadChain(0)
    for index, name in enumerate(names):
        before = kind_after(before, name)
        if before is None:
            raise BadChain(index)


def stair_from(machine, name):
    """The stair with a name that begins with a machine."""
    match name:
        case "cells":
            return CellStair(machine)
        case "counters":
            return CounterStair(machine)
        case "marks":
            return TwoMarks(machine)
        case "ratios":
            return RatioStair(machine)
        case "ring":
            return RingStair(machine)
        case "rules":
            return RuleStair(machine)
        case "stacks":
            return StackStair(machine)
        case "tag":
            return TagStair(machine)
        case _:
            return UpStair(machine)


def kind(machine):
    """The kind of a machine, or None if no stair of a chain leads from or to such machines."""
    if isinstance(machine, Tape):
        return "tape"
    if isinstance(machine, Cells):
        return "cells"
    if isinstance(machine, Rules):
        return "rules"
    if isinstance(machine, Stacks):
        return "stacks"
    if isinstance(machine, Tag):
        return "tag"
    if isinstance(machine, Counters):
        return "counters"
    if isinstance(machine, Ratios):
        return "ratios"
    if isinstance(machine, Ring):
        return "ring"
    return None


def chains(marks, most):
    """All lists of at most so many names that are chains for a tape machine with so many marks, in ascending order."""
    return chains_from(tape_kind(marks), most)


def chains_from(before, most):
    """All lists of at most so many names that are chains and begin with this kind of machine, in ascending order."""
    found = []
    if most > 0:
        for name in STAIRS:
            after = kind_after(before, name)
            if after is not None:
                found.append([name])
                found += [[name] + rest for rest in chains_from(after, most - 1)]
    return found


def shown(chain, configuration, steps):
    """The upper configurations that a run of the lowest machine shows, each behind its number of steps."""
    at = chain.down(configuration)
    found = [(0, configuration)]
    for taken in range(1, steps + 1):
        at = chain.lower.step(at)
        if at is None:
            break
        upper = chain.up(at)
        if upper is not None:
            found.append((taken, upper))
    return found
