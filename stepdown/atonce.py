"""Loops of counter machines, and runs that take their rounds all at once.

A *change* is what a step does to the counters: a pair of a counter and 1 for an "inc", -1 for a
"dec" that finds more than 0, and 0 for a "dec" that finds 0."""


def loop_at(machine, state):
    """The list of the states of the loop at a state, or None."""
    loop = {}
    at = state
    while at not in loop:
        row = machine.row(at)
        if row is None:
            return None
        loop[at] = True
        at = row[2]
    return list(loop) if at == state else None


def rounds(machine, configuration):
    """How many times the machine takes the whole loop at its state, or -1 if without end."""
    state, counters = configuration
    loop = loop_at(machine, state)
    if loop is None:
        return 0
    changes = []
    for at in loop:
        row = machine.row(at)
        changes.append((row[1], 1 if row[0] == "inc" else -1))
    return repeats(changes, counters)


def repeats(changes, counters):
    """How many times in a row all these changes can be made, or -1 if without end."""
    held = list(counters)
    least = {}
    found_0 = {}
    for counter, change in changes:
        number = held[counter]
        if (change == 0 and number > 0) or (change == -1 and number == 0):
            return 0
        if change == 0:
            found_0[counter] = True
        if change == -1:
            least[counter] = min(number, least.get(counter, number))
        held[counter] += change
    limits = [1 for counter in found_0 if held[counter] != counters[counter]]
    for counter, number in least.items():
        lost = counters[counter] - held[counter]
        if lost > 0:
            limits.append((number - 1) // lost + 1)
    return min(limits, default=-1)


def at_once(machine, configuration, steps):
    """What `run` returns, with whole rounds taken all at once."""
    walk = Walk(machine, configuration)
    while walk.taken < steps:
        if walk.is_back():
            walk.take_rounds(steps)
            walk.take_returns(steps)
        elif not walk.take_step():
            break
    return walk.configuration, walk.taken


class Walk:
    """A run that remembers its way, to see which rounds it takes."""

    def __init__(self, machine, configuration):
        self.configuration = configuration
        self.taken = 0
        self._machine = machine
        # The states on the way, with the numbers of changes before them.
        self._met = {}
        self._changes = []
        # One earlier configuration, to see whether the run comes back to it.
        self._earlier = configuration
        self._taken_earlier = 0
        self._looks = 0
        self._next_look = 1

    def is_back(self):
        """Whether the state is one that is on the way already."""
        return self.configuration[0] in self._met

    def take_step(self):
        """Takes one step; whether the machine had not stopped."""
        state, counters = self.configuration
        row = self._machine.row(state)
        if row is None:
            return False
        self._met[state] = len(self._changes)
        self.configuration = self._machine.step(self.configuration)
        # The step changes this counter only.
        self._changes.append((row[1], self.configuration[1][row[1]] - counters[row[1]]))
        self.taken += 1
        return True

    def take_rounds(self, steps):
        """Takes the round that leads from the state to itself as often as it can be taken, and begins a new way."""
        state, counters = self.configuration
        changes = self._changes[self._met[state]:]
        many = (steps - self.taken) // len(changes)
        possible = repeats(changes, counters)
        if possible >= 0:
            many = min(many, possible)
        held = list(counters)
        for counter, change in changes:
            held[counter] += many * change
        self.configuration = state, tuple(held)
        self.taken += many * len(changes)
        self._met = {}
        self._changes = []

    def take_returns(self, steps):
        """If the run is back in an earlier configuration, takes this way as often as the steps allow."""
        if self.configuration == self._earlier:
            length = self.taken - self._taken_earlier
            self.taken += (steps - self.taken) // length * length
        self._looks += 1
        # After each doubling a later one is taken, so that in the end it is one that comes back.
        if self._looks == self._next_look:
            self._next_look *= 2
            self._earlier = self.configuration
            self._taken_earlier = self.taken
