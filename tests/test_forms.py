"""The figures that a number of a range begins with."""

import unittest

from tabulreports.forms import can_begin


class CanBegin(unittest.TestCase):
    def test_against_every_number_written_out(self):
        for low in (0, 1, 2, 9, 10, 35, 100, 120):
            for high in range(low, 140, 7):
                numbers = [str(number) for number in range(low, high + 1)]
                for value in range(150):
                    begins = any(number.startswith(str(value)) for number in numbers)
                    self.assertEqual(can_begin(value, low, high), begins, (value, low, high))


if __name__ == "__main__":
    unittest.main()
