"""Point 6: mend."""

import unittest

from movingblocks.blocks import mend, rest
from tests.helper import BLOCK, CallCase, changed, held, points, shorts

EVERY = list(range(BLOCK))


class Sums(unittest.TestCase, CallCase):

    def test_within(self):
        self.check_answer(mend, (EVERY, [0] * BLOCK), [0] + EVERY)
        self.check_answer(mend, ([100] * BLOCK, [20, -20] * 128), [0] + [120, 80] * 128)

    def test_around_0(self):
        for p in (0, 1, 100, 255):
            left = [-p - 2, -p - 1, -p, -p + 1] * 64
            self.check_answer(mend, ([p] * BLOCK, left), [0] + [0, 0, 0, 1] * 64)

    def test_around_255(self):
        for p in (0, 1, 100, 255):
            left = [254 - p, 255 - p, 256 - p, 257 - p] * 64
            self.check_answer(mend, ([p] * BLOCK, left), [0] + [254, 255, 255, 255] * 64)

    def test_the_ends_of_rest(self):
        for end, answer in ((-32768, 0), (-32767, 0), (-256, 0), (256, 255), (32766, 255), (32767, 255)):
            self.check_answer(mend, (EVERY, [end] * BLOCK), [0] + [answer] * BLOCK)

    def test_unordered(self):
        a = points(BLOCK, 101)
        for left in (shorts(BLOCK, 102), [number // 128 for number in shorts(BLOCK, 103)]):
            self.check_answer(mend, (a, left), [0] + [held(a[k] + left[k], 0, 255) for k in range(BLOCK)])

    def test_each_point_at_its_own_place(self):
        for place in range(BLOCK):
            self.check_answer(
                mend, (changed([10] * BLOCK, place, 200), [3] * BLOCK), [0] + changed([13] * BLOCK, place, 203))
            self.check_answer(
                mend, ([10] * BLOCK, changed([3] * BLOCK, place, -4)), [0] + changed([13] * BLOCK, place, 6))

    def test_0_then_256_points(self):
        given = mend(points(BLOCK, 104), shorts(BLOCK, 105))
        self.assertEqual(given[0], 0)
        self.assertEqual(len(given), 257)


class BackAgain(unittest.TestCase, CallCase):

    def test_the_rest_of_b_and_a_mends_a_to_b(self):
        ends = ([0] * BLOCK, [255] * BLOCK, [0, 255] * 128, [255, 0] * 128, EVERY)
        for a in ends + (points(BLOCK, 106),):
            for b in ends + (points(BLOCK, 107),):
                self.check_answer(mend, (a, rest(b, a)[1:]), [0] + b)


class Manners(unittest.TestCase, CallCase):

    def test_answered(self):
        self.check_manners(mend, (points(BLOCK, 108), shorts(BLOCK, 109)), ([1] * BLOCK, [2] * BLOCK))

    def test_one_list_for_both(self):
        block = points(BLOCK, 110)
        self.check_manners(mend, (block, block), ([1] * BLOCK, [2] * BLOCK))


if __name__ == "__main__":
    unittest.main()
