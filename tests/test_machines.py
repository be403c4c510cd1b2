"""Point 801."""

import unittest

from tensorcompiler.errors import MachineError
from tensorcompiler.machines import check_machine, fits

MACHINE = (32, 100, 64, 2, 4)
BOUNDS = ((32, 256), (1, 16384), (16, 4096), (1, 4), (1, 16))


def with_field(place, n):
    return MACHINE[:place] + (n,) + MACHINE[place + 1:]


class Machines(unittest.TestCase):
    def test_each_bound_and_one_beyond(self):
        self.assertIsNone(check_machine(MACHINE))
        for place, (low, high) in enumerate(BOUNDS):
            for n in (low, high):
                self.assertIsNone(check_machine(with_field(place, n)))
            for n in (low - 1, high + 1, -high, 2 ** 300):
                for field in (n,):
                    with self.assertRaises(MachineError):
                        check_machine(with_field(place, field))
                    with self.assertRaises(MachineError):
                        fits(with_field(place, field), 0)

    def test_all_at_their_bounds(self):
        for end in (0, 1):
            self.assertIsNone(check_machine(tuple(bounds[end] for bounds in BOUNDS)))


class Fitting(unittest.TestCase):
    def test_the_least_and_the_greatest_number(self):
        for width in (32, 33, 64, 256):
            machine = with_field(0, width)
            least, greatest = -2 ** (width - 1), 2 ** (width - 1) - 1
            for n in (least, greatest, least + 1, 0, -1, 1):
                self.assertIs(fits(machine, n), True)
            for n in (least - 1, greatest + 1, 2 * least, 2 ** 300):
                self.assertIs(fits(machine, n), False)


if __name__ == "__main__":
    unittest.main()
