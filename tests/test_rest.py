"""Point 6: rest."""

import unittest

from movingblocks.blocks import rest
from tests.helper import BLOCK, CallCase, changed, points

EVERY = list(range(BLOCK))


class Differences(unittest.TestCase, CallCase):

    def test_both_signs(self):
        self.check_answer(rest, ([10, 3] * 128, [3, 10] * 128), [0] + [7, -7] * 128)
        self.check_answer(rest, (EVERY, [100] * BLOCK), [0] + list(range(-100, 156)))
        self.check_answer(rest, ([100] * BLOCK, EVERY), [0] + list(range(100, -156, -1)))

    def test_0(self):
        self.check_answer(rest, (EVERY, list(EVERY)), [0] * 257)
        self.check_answer(rest, (EVERY, EVERY), [0] * 257)
        for end in (0, 255):
            self.check_answer(rest, ([end] * BLOCK, [end] * BLOCK), [0] * 257)

    def test_the_greatest(self):
        self.check_answer(rest, ([255] * BLOCK, [0] * BLOCK), [0] + [255] * BLOCK)
        self.check_answer(rest, ([0] * BLOCK, [255] * BLOCK), [0] + [-255] * BLOCK)
        self.check_answer(rest, ([0, 255] * 128, [255, 0] * 128), [0] + [-255, 255] * 128)

    def test_each_pair_of_points(self):
        for p in range(256):
            self.check_answer(rest, ([p] * BLOCK, EVERY), [0] + list(range(p, p - 256, -1)))

    def test_each_point_at_its_own_place(self):
        plain = [10] * BLOCK
        for place in range(BLOCK):
            other = changed(plain, place, 200)
            self.check_answer(rest, (other, plain), [0] + changed([0] * BLOCK, place, 190))
            self.check_answer(rest, (plain, other), [0] + changed([0] * BLOCK, place, -190))

    def test_0_then_256_numbers(self):
        given = rest(points(BLOCK, 91), points(BLOCK, 92))
        self.assertEqual(given[0], 0)
        self.assertEqual(len(given), 257)


class Manners(unittest.TestCase, CallCase):

    def test_answered(self):
        self.check_manners(rest, (points(BLOCK, 93), points(BLOCK, 94)), ([1] * BLOCK, [2] * BLOCK))

    def test_one_list_for_both(self):
        block = points(BLOCK, 95)
        self.check_manners(rest, (block, block), ([1] * BLOCK, [2] * BLOCK))


if __name__ == "__main__":
    unittest.main()
