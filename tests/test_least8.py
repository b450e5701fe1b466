"""Point 8: least8."""

import unittest

from movingblocks.blocks import least8
from tests.helper import CallCase, changed, points


class Places(unittest.TestCase, CallCase):

    def test_first_last_and_in_between(self):
        for place in range(8):
            for number in (0, 1, 255, 32767, 32768, 65534):
                self.check_answer(least8, (changed([65535] * 8, place, number),), [number + 65536 * place])

    def test_rising_and_falling(self):
        self.check_answer(least8, ([3, 4, 5, 6, 7, 8, 9, 10],), [3])
        self.check_answer(least8, ([10, 9, 8, 7, 6, 5, 4, 3],), [458755])

    def test_other_numbers_that_differ(self):
        self.check_answer(least8, ([65535, 40000, 32768, 32767, 300, 256, 255, 9000],), [393471])
        self.check_answer(least8, ([700, 256, 511, 12, 13, 65535, 14, 12000],), [196620])


class Several(unittest.TestCase, CallCase):

    def test_the_first_is_told(self):
        self.check_answer(least8, ([9, 4, 7, 4, 4, 8, 9, 4],), [65540])
        self.check_answer(least8, ([0, 5, 5, 5, 5, 5, 5, 0],), [0])
        self.check_answer(least8, ([65535, 65535, 65535, 65535, 65535, 65535, 2, 2],), [393218])

    def test_each_two_places(self):
        for first in range(8):
            for second in range(first + 1, 8):
                a = changed(changed([500] * 8, second, 6), first, 6)
                self.check_answer(least8, (a,), [6 + 65536 * first])

    def test_all_alike(self):
        for number in (0, 1, 32768, 65535):
            self.check_answer(least8, ([number] * 8,), [number])

    def test_0_and_65535(self):
        self.check_answer(least8, ([65535] * 7 + [0],), [458752])
        self.check_answer(least8, ([0] + [65535] * 7,), [0])
        self.check_answer(least8, ([65535, 0] * 4,), [65536])


class Unordered(unittest.TestCase, CallCase):

    def test_against_a_plain_walk(self):
        for seed in range(200, 400):
            # Few different numbers, so that several least ones come up too.
            for most in (3, 65535):
                a = points(8, seed, most)
                place = 0
                for k in range(8):
                    if a[k] < a[place]:
                        place = k
                self.check_answer(least8, (a,), [a[place] + 65536 * place])


class Manners(unittest.TestCase, CallCase):

    def test_answered(self):
        self.check_manners(least8, (points(8, 201, 65535),), ([70, 60, 80, 90, 70, 60, 80, 90],))


if __name__ == "__main__":
    unittest.main()
