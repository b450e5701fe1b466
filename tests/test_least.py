"""Point 3: least."""

import unittest

from movingblocks.blocks import least
from tests.helper import CallCase, changed, points


class Places(unittest.TestCase, CallCase):

    def test_first_last_and_in_between(self):
        for n in (2, 3, 10, 1023, 1024):
            high = [number + 1000 for number in points(n, n, 60000)]
            for place in (0, n // 2, n - 1):
                self.check_answer(least, (n, changed(high, place, 999)), [place, 999])

    def test_each_place_of_the_longest(self):
        for place in range(1024):
            self.check_answer(least, (1024, changed([65535] * 1024, place, 65534)), [place, 65534])

    def test_rising_and_falling(self):
        self.check_answer(least, (5, [3, 4, 5, 6, 7]), [0, 3])
        self.check_answer(least, (5, [7, 6, 5, 4, 3]), [4, 3])

    def test_one_number(self):
        for number in (0, 1, 5, 65535):
            self.check_answer(least, (1, [number]), [0, number])


class Several(unittest.TestCase, CallCase):

    def test_the_first_is_told(self):
        self.check_answer(least, (6, [9, 4, 7, 4, 4, 8]), [1, 4])
        self.check_answer(least, (4, [0, 5, 5, 0]), [0, 0])
        self.check_answer(least, (4, [5, 5, 2, 2]), [2, 2])

    def test_all_alike(self):
        for number in (0, 65535):
            for n in (2, 1024):
                self.check_answer(least, (n, [number] * n), [0, number])

    def test_several_in_the_longest(self):
        l = changed(changed([65535] * 1024, 1023, 0), 700, 0)
        self.check_answer(least, (1024, l), [700, 0])


class Refused(unittest.TestCase, CallCase):

    def test_another_n(self):
        for n in (0, 1025, -1, -2147483648, 2147483647):
            self.check_answer(least, (n, []), [-1])


class Manners(unittest.TestCase, CallCase):

    def test_answered(self):
        self.check_manners(least, (1024, points(1024, 41, 65535)), (3, [2, 1, 2]))

    def test_refused(self):
        self.check_manners(least, (0, []), (3, [2, 1, 2]))


if __name__ == "__main__":
    unittest.main()
