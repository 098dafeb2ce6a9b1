"""Point 801: machines."""

import unittest

from tensorworks.errors import MachineError
from tensorworks.machines import check_machine, fits
from tests.helpers import error_of

RANGES = ((32, 256), (1, 16384), (16, 4096), (1, 4), (1, 16))


class Machines(unittest.TestCase):
    def test_bounds(self):
        lows = tuple(low for low, _ in RANGES)
        highs = tuple(high for _, high in RANGES)
        for machine in (lows, highs):
            self.assertIsNone(check_machine(machine))
            for at, (low, high) in enumerate(RANGES):
                for n, expected in ((low, None), (high, None), (low - 1, MachineError), (high + 1, MachineError), (-1, MachineError)):
                    changed = machine[:at] + (n,) + machine[at + 1:]
                    self.assertIs(error_of(check_machine, changed), expected, changed)
                    self.assertIs(error_of(fits, changed, 0), expected)

    def test_fits(self):
        for width in (32, 33, 256):
            machine = (width, 1, 16, 1, 1)
            bound = 1 << (width - 1)
            for n, expected in ((-bound - 1, False), (-bound, True), (0, True), (bound - 1, True), (bound, False)):
                self.assertIs(fits(machine, n), expected)
