"""Point 4: between."""

import unittest
from fractions import Fraction

from movingblocks.blocks import between
from tests.helper import CallCase, changed, nearest, points

SIDE = 17
AREA = SIDE * SIDE
PAIRS = ((0, 0), (1, 0), (0, 1), (1, 1))
REFUSED = (2, -1, -2147483648, 2147483647)


def area(point):
    """17 rows of 17 points, each as point(x, y) tells it."""
    return [point(x, y) for y in range(SIDE) for x in range(SIDE)]


def block(point):
    """0, then 16 rows of 16 points, each as point(x, y) tells it."""
    return [0] + [point(x, y) for y in range(16) for x in range(16)]


def expected(across, down, a):
    """What the document asks for, place by place."""
    def point(x, y):
        places = [(x, y)]
        if across:
            places.append((x + 1, y))
        if down:
            places.append((x, y + 1))
        if across and down:
            places.append((x + 1, y + 1))
        return nearest(Fraction(sum(a[v * SIDE + u] for u, v in places), len(places)))
    return block(point)


class Means(unittest.TestCase, CallCase):

    def test_points_that_tell_x_from_y(self):
        a = area(lambda x, y: x + 14 * y)
        self.check_answer(between, (0, 0, a), block(lambda x, y: x + 14 * y))
        self.check_answer(between, (1, 0, a), block(lambda x, y: x + 14 * y + 1))
        self.check_answer(between, (0, 1, a), block(lambda x, y: x + 14 * y + 7))
        self.check_answer(between, (1, 1, a), block(lambda x, y: x + 14 * y + 8))

    def test_unordered_points(self):
        for seed in range(50, 60):
            a = points(AREA, seed)
            for across, down in PAIRS:
                self.check_answer(between, (across, down, a), expected(across, down, a))

    def test_0_then_256_points(self):
        for across, down in PAIRS:
            given = between(across, down, points(AREA, 61))
            self.assertEqual(given[0], 0)
            self.assertEqual(len(given), 257)
            self.assertTrue(all(0 <= point <= 255 for point in given))

    def test_each_point_of_a_by_itself(self):
        for place in range(AREA):
            a = changed([0] * AREA, place, 200)
            v, u = divmod(place, SIDE)
            for across, down in PAIRS:
                share = 200 // ((1 + across) * (1 + down))
                self.check_answer(
                    between, (across, down, a),
                    block(lambda x, y: share if 0 <= u - x <= across and 0 <= v - y <= down else 0))


class LastOnes(unittest.TestCase, CallCase):

    def test_the_last_column_leans_on_the_17th(self):
        a = area(lambda x, y: 100 if x == 16 else 0)
        plain = [0] * 257
        half = block(lambda x, y: 50 if x == 15 else 0)
        self.check_answer(between, (0, 0, a), plain)
        self.check_answer(between, (1, 0, a), half)
        self.check_answer(between, (0, 1, a), plain)
        self.check_answer(between, (1, 1, a), half)

    def test_the_last_row_leans_on_the_17th(self):
        a = area(lambda x, y: 100 if y == 16 else 0)
        plain = [0] * 257
        half = block(lambda x, y: 50 if y == 15 else 0)
        self.check_answer(between, (0, 0, a), plain)
        self.check_answer(between, (1, 0, a), plain)
        self.check_answer(between, (0, 1, a), half)
        self.check_answer(between, (1, 1, a), half)

    def test_the_last_point_of_all(self):
        a = changed([0] * AREA, AREA - 1, 100)
        for across, down in PAIRS:
            last = 25 if (across, down) == (1, 1) else 0
            self.check_answer(between, (across, down, a), [0] * 256 + [last])


class Rounding(unittest.TestCase, CallCase):

    def test_two_points(self):
        for p, q, mean in ((4, 6, 5), (4, 5, 5), (5, 6, 6), (0, 1, 1), (254, 255, 255), (0, 255, 128)):
            for left, right in ((p, q), (q, p)):
                beside = area(lambda x, y: right if x % 2 else left)
                self.check_answer(between, (1, 0, beside), [0] + [mean] * 256)
                below = area(lambda x, y: right if y % 2 else left)
                self.check_answer(between, (0, 1, below), [0] + [mean] * 256)

    def test_four_points(self):
        # Nothing, a quarter, a half and three quarters left over, on even and odd whole numbers.
        cases = (
            ((8, 8, 8, 8), 8), ((8, 8, 8, 9), 8), ((8, 8, 9, 9), 9), ((8, 9, 9, 9), 9),
            ((7, 7, 7, 7), 7), ((7, 7, 7, 8), 7), ((7, 7, 8, 8), 8), ((7, 8, 8, 8), 8),
            ((0, 0, 0, 1), 0), ((0, 0, 1, 1), 1), ((0, 1, 1, 1), 1), ((0, 0, 0, 2), 1),
            ((255, 255, 255, 254), 255), ((255, 255, 254, 254), 255), ((255, 254, 254, 254), 254),
            ((0, 0, 0, 255), 64), ((0, 0, 255, 255), 128), ((0, 255, 255, 255), 191),
        )
        for four, mean in cases:
            for turn in range(4):
                p = four[turn:] + four[:turn]
                a = area(lambda x, y: p[x % 2 + 2 * (y % 2)])
                self.check_answer(between, (1, 1, a), [0] + [mean] * 256)

    def test_four_points_are_rounded_once(self):
        # Means of two that are rounded, and then their mean, would come to 1 and to 8.
        self.check_answer(between, (1, 1, area(lambda x, y: (0, 1, 0, 0)[x % 2 + 2 * (y % 2)])), [0] * 257)
        a = area(lambda x, y: (7, 7, 7, 8)[x % 2 + 2 * (y % 2)])
        self.check_answer(between, (1, 1, a), [0] + [7] * 256)

    def test_the_ends_throughout(self):
        for end in (0, 255):
            for across, down in PAIRS:
                self.check_answer(between, (across, down, [end] * AREA), [0] + [end] * 256)


class Refused(unittest.TestCase, CallCase):

    def test_across(self):
        for across in REFUSED:
            for down in (0, 1):
                self.check_answer(between, (across, down, points(AREA, 62)), [-1])

    def test_down(self):
        for down in REFUSED:
            for across in (0, 1):
                self.check_answer(between, (across, down, points(AREA, 63)), [-1])

    def test_both(self):
        for across in REFUSED:
            for down in REFUSED:
                self.check_answer(between, (across, down, points(AREA, 64)), [-1])


class Manners(unittest.TestCase, CallCase):

    def test_answered(self):
        for across, down in PAIRS:
            self.check_manners(between, (across, down, points(AREA, 65)), (1, 1, [9] * AREA))

    def test_refused(self):
        self.check_manners(between, (2, 0, points(AREA, 66)), (0, 0, [9] * AREA))
        self.check_manners(between, (0, -1, points(AREA, 67)), (0, 0, [9] * AREA))


if __name__ == "__main__":
    unittest.main()
