"""Point 5: bright."""

import unittest

from movingblocks.blocks import bright
from tests.helper import BLOCK, CallCase, changed, points

EVERY = list(range(BLOCK))


class By(unittest.TestCase, CallCase):

    def test_0(self):
        self.check_answer(bright, (0, EVERY), [0] + EVERY)

    def test_above_0(self):
        self.check_answer(bright, (1, EVERY), [0] + list(range(1, 256)) + [255])
        self.check_answer(bright, (40, EVERY), [0] + list(range(40, 256)) + [255] * 40)

    def test_below_0(self):
        self.check_answer(bright, (-1, EVERY), [0] + [0] + list(range(255)))
        self.check_answer(bright, (-40, EVERY), [0] + [0] * 40 + list(range(216)))

    def test_as_much_as_a_point_may_be(self):
        self.check_answer(bright, (254, EVERY), [0] + [254, 255] + [255] * 254)
        self.check_answer(bright, (255, EVERY), [0] + [255] * BLOCK)
        self.check_answer(bright, (256, EVERY), [0] + [255] * BLOCK)
        self.check_answer(bright, (-254, EVERY), [0] + [0] * 254 + [0, 1])
        self.check_answer(bright, (-255, EVERY), [0] + [0] * BLOCK)
        self.check_answer(bright, (-256, EVERY), [0] + [0] * BLOCK)

    def test_the_ends_of_by(self):
        for by in (2147483647, 2147483393, 65536, 32768):
            self.check_answer(bright, (by, EVERY), [0] + [255] * BLOCK)
        for by in (-2147483648, -2147483393, -65536, -32768):
            self.check_answer(bright, (by, EVERY), [0] + [0] * BLOCK)


class Points(unittest.TestCase, CallCase):

    def test_around_the_greatest(self):
        for by in (1, 7, 100, 254):
            for point, answer in ((254 - by, 254), (255 - by, 255), (256 - by, 255)):
                self.check_answer(bright, (by, [point] * BLOCK), [0] + [answer] * BLOCK)

    def test_around_0(self):
        for by in (1, 7, 100, 254):
            for point, answer in ((by - 1, 0), (by, 0), (by + 1, 1)):
                self.check_answer(bright, (-by, [point] * BLOCK), [0] + [answer] * BLOCK)

    def test_each_point_at_its_own_place(self):
        plain = [10] * BLOCK
        for place in range(BLOCK):
            self.check_answer(bright, (3, changed(plain, place, 200)), [0] + changed([13] * BLOCK, place, 203))

    def test_0_then_256_points(self):
        for by in (-2147483648, -3, 0, 3, 2147483647):
            given = bright(by, points(BLOCK, 81))
            self.assertEqual(given[0], 0)
            self.assertEqual(len(given), 257)


class Manners(unittest.TestCase, CallCase):

    def test_answered(self):
        for by in (-100, 0, 100):
            self.check_manners(bright, (by, points(BLOCK, 82)), (5, [9] * BLOCK))


if __name__ == "__main__":
    unittest.main()
