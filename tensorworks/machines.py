"""Machines, and the numbers that fit their words."""

from tensorworks.errors import MachineError

MACHINE_RANGES = ((32, 256), (1, 16384), (16, 4096), (1, 4), (1, 16))


def check_machine(machine):
    """Raise the error of a machine that is not within the limits."""
    for n, (low, high) in zip(machine, MACHINE_RANGES):
        if not low <= n <= high:
            raise MachineError("a machine is not within the limits")


def word_range(machine):
    """Return the least and the greatest number that fit a machine."""
    bound = 1 << (machine[0] - 1)
    return (-bound, bound - 1)


def fits(machine, n):
    """Tell whether a number fits a machine."""
    check_machine(machine)
    low, high = word_range(machine)
    return low <= n <= high
