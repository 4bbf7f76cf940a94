"""Machines, configurations and checks that several tests share."""

from random import Random

from stepdown.counters import Counters
from stepdown.stacks import Stacks
from stepdown.tag import Tag
from stepdown.tape import Tape

ADD_ONE = Tape(2, 2, [(1, 1, 1), (0, 1, 0), None, None])
ADD_ONE_ROWS = [(1, 1, 1), (0, 1, 0), None, None]
# The busy beaver with three states: 21 steps on the empty tape, then the fourth state stops.
BEAVER = Tape(2, 4, [(1, 1, 1), (1, 1, 3), (1, -1, 1), (0, 1, 2), (1, -1, 2), (1, -1, 0), None, None])

NO_NUMBERS = (True, False, None, "0", 0.0, 1.0, (), (0,), [0], b"0", {})
WRONG_KINDS = (None, True, False, 0, 1, -1, "", "abc", b"", [], {}, 1.5, object(), Tape, set())


def random_tape(random, marks, states, stops=0.15):
    """A machine some of whose rows are None."""
    rows = []
    for _ in range(marks * states):
        if random.random() < stops:
            rows.append(None)
        else:
            rows.append((random.randrange(marks), random.choice((-1, 1)), random.randrange(states)))
    return Tape(marks, states, rows)


def random_side(random, marks, longest=4):
    """The marks on one side of a head."""
    side = [random.randrange(marks) for _ in range(random.randrange(longest + 1))]
    if side:
        side[-1] = random.randrange(1, marks)
    return tuple(side)


def random_configuration(random, machine, longest=4):
    """A configuration of a tape machine."""
    left = random_side(random, machine.marks, longest)
    right = random_side(random, machine.marks, longest)
    return random.randrange(machine.states), left, random.randrange(machine.marks), right


def random_stacks(random, states, stops=0.1):
    """A stack machine some of whose rows are None."""
    rows = []
    for _ in range(states):
        if random.random() < stops:
            rows.append(None)
        elif random.random() < 0.5:
            rows.append(("push", random.randrange(2), random.randrange(2), random.randrange(states)))
        else:
            rows.append(("pop", random.randrange(2), random.randrange(states), random.randrange(states)))
    return Stacks(rows)


def random_counters(random, count, states, stops=0.1):
    """A counter machine some of whose rows are None."""
    rows = []
    for _ in range(states):
        if random.random() < stops:
            rows.append(None)
        elif random.random() < 0.5:
            rows.append(("inc", random.randrange(count), random.randrange(states)))
        else:
            rows.append(("dec", random.randrange(count), random.randrange(states), random.randrange(states)))
    return Counters(count, rows)


def random_tag(random, letters, longest=3, stops=0.15):
    """A tag machine some of whose words are None."""
    words = []
    for _ in range(letters):
        if random.random() < stops:
            words.append(None)
        else:
            words.append(tuple(random.randrange(letters) for _ in range(random.randrange(longest + 1))))
    return Tag(letters, words)


def random_row(random, machine, longest=6):
    """A row of letters of a tag machine."""
    return tuple(random.randrange(machine.letters) for _ in range(random.randrange(longest + 1)))


def sample_tapes():
    """Small machines with all numbers of marks up to five, and with sixteen."""
    random = Random(1)
    machines = [ADD_ONE, BEAVER]
    for marks in (2, 3, 4, 5, 7, 8, 9, 16):
        for states in (1, 2, 3):
            machines.append(random_tape(random, marks, states))
    return machines


def sample_configurations(machine, many=12):
    """Configurations of a tape machine, that of the empty tape among them."""
    random = Random(machine.marks * 100 + machine.states)
    found = [(0, (), 0, ()), (machine.states - 1, (1,), 1, (0, 1))]
    for _ in range(many):
        found.append(random_configuration(random, machine))
    return found


def check_step_and_run(test, machine, configuration, steps):
    """What `step`, `stopped` and `run` say of one another, for up to so many steps."""
    taken = 0
    at = configuration
    test.assertEqual(machine.run(configuration, 0), (configuration, 0))
    while taken < steps:
        after = machine.step(at)
        test.assertIs(machine.stopped(at), after is None)
        if after is None:
            break
        at = after
        taken += 1
        test.assertEqual(machine.run(configuration, taken), (at, taken))
    test.assertEqual(machine.run(configuration, steps), (at, taken))
    return at, taken


def check_promise(test, stair, configuration, steps):
    """The promise of a stair, for so many steps of the upper machine."""
    for _ in range(steps):
        if not check_promise_once(test, stair, configuration):
            break
        configuration = stair.upper.step(configuration)


def check_promise_once(test, stair, configuration):
    """The promise of a stair for one configuration; whether the upper machine goes on."""
    lower = stair.lower
    at = stair.down(configuration)
    test.assertEqual(stair.up(at), configuration)
    after = stair.upper.step(configuration)
    pace = stair.pace(configuration)
    ending = stair.ending(configuration)
    if after is None:
        test.assertEqual(pace, 0)
        for _ in range(ending):
            at = lower.step(at)
            test.assertIsNotNone(at)
            test.assertIsNone(stair.up(at))
        test.assertTrue(lower.stopped(at))
        test.assertIsNone(lower.step(at))
        return False
    test.assertEqual(ending, 0)
    test.assertGreaterEqual(pace, 1)
    for taken in range(1, pace + 1):
        at = lower.step(at)
        test.assertIsNotNone(at)
        if taken < pace:
            test.assertIsNone(stair.up(at))
    test.assertEqual(at, stair.down(after))
    return True
