"""Runs of machines that take their steps one by one."""


def run_by_steps(machine, configuration, steps):
    """The configuration after at most so many steps, and their number."""
    taken = 0
    while taken < steps:
        after = machine.step(configuration)
        if after is None:
            break
        configuration = after
        taken += 1
    return configuration, taken
