"""Point 5: mean."""

import unittest

from movingblocks.blocks import mean
from tests.helper import BLOCK, CallCase, changed, points


class Means(unittest.TestCase, CallCase):

    def test_equal_points(self):
        every = list(range(BLOCK))
        self.check_answer(mean, (every, list(every)), [0] + every)
        self.check_answer(mean, (every, every), [0] + every)
        for end in (0, 255):
            self.check_answer(mean, ([end] * BLOCK, [end] * BLOCK), [0] + [end] * BLOCK)

    def test_0_beside_255(self):
        self.check_answer(mean, ([0] * BLOCK, [255] * BLOCK), [0] + [128] * BLOCK)
        self.check_answer(mean, ([255] * BLOCK, [0] * BLOCK), [0] + [128] * BLOCK)

    def test_even_and_odd_sums(self):
        for p, q, middle in ((4, 6, 5), (4, 8, 6), (4, 5, 5), (5, 6, 6), (0, 1, 1), (1, 2, 2), (254, 255, 255)):
            self.check_answer(mean, ([p] * BLOCK, [q] * BLOCK), [0] + [middle] * BLOCK)
            self.check_answer(mean, ([q] * BLOCK, [p] * BLOCK), [0] + [middle] * BLOCK)

    def test_each_pair_of_points(self):
        b = list(range(BLOCK))
        for p in range(256):
            answer = [(p + q) // 2 + (p + q) % 2 for q in b]
            self.check_answer(mean, ([p] * BLOCK, b), [0] + answer)

    def test_each_point_at_its_own_place(self):
        plain = [10] * BLOCK
        for place in range(BLOCK):
            answer = [0] + changed(plain, place, 105)
            self.check_answer(mean, (changed(plain, place, 200), plain), answer)
            self.check_answer(mean, (plain, changed(plain, place, 200)), answer)

    def test_0_then_256_points(self):
        given = mean(points(BLOCK, 71), points(BLOCK, 72))
        self.assertEqual(given[0], 0)
        self.assertEqual(len(given), 257)


class Manners(unittest.TestCase, CallCase):

    def test_answered(self):
        self.check_manners(mean, (points(BLOCK, 73), points(BLOCK, 74)), ([1] * BLOCK, [2] * BLOCK))

    def test_one_list_for_both(self):
        block = points(BLOCK, 75)
        self.check_manners(mean, (block, block), ([1] * BLOCK, [2] * BLOCK))


if __name__ == "__main__":
    unittest.main()
