"""Point 8: points16."""

import unittest

from movingblocks.blocks import points16
from tests.helper import CallCase, changed, held, points, shorts

# A short number, and the point it comes to.
CASES = (
    (0, 0), (1, 1), (127, 127), (128, 128), (254, 254), (255, 255),
    (256, 255), (257, 255), (511, 255), (512, 255), (32766, 255), (32767, 255),
    (-1, 0), (-2, 0), (-128, 0), (-255, 0), (-256, 0), (-257, 0), (-32767, 0), (-32768, 0),
)


class Numbers(unittest.TestCase, CallCase):

    def test_a_then_b_in_their_order(self):
        self.check_answer(points16, (list(range(1, 9)), list(range(9, 17))), [0] + list(range(1, 17)))
        falling = list(range(255, 239, -1))
        self.check_answer(points16, (falling[8:], falling[:8]), [0] + falling[8:] + falling[:8])

    def test_the_ends_and_beyond(self):
        for number, answer in CASES:
            self.check_answer(points16, ([number] * 8, [5] * 8), [0] + [answer] * 8 + [5] * 8)
            self.check_answer(points16, ([5] * 8, [number] * 8), [0] + [5] * 8 + [answer] * 8)

    def test_each_place(self):
        plain = list(range(20, 36))
        for number, answer in CASES:
            for place in range(16):
                numbers = changed(plain, place, number)
                self.check_answer(points16, (numbers[:8], numbers[8:]), [0] + changed(plain, place, answer))

    def test_every_short_number(self):
        for start in range(-32768, 32768, 16):
            numbers = list(range(start, start + 16))
            self.check_answer(
                points16, (numbers[:8], numbers[8:]), [0] + [held(number, 0, 255) for number in numbers])

    def test_0_then_16_points(self):
        given = points16(shorts(8, 191), shorts(8, 192))
        self.assertEqual(given[0], 0)
        self.assertEqual(len(given), 17)


class Manners(unittest.TestCase, CallCase):

    def test_answered(self):
        self.check_manners(points16, (shorts(8, 193), shorts(8, 194)), ([9] * 8, [8] * 8))

    def test_answered_with_what_was_handed_in(self):
        self.check_manners(points16, (points(8, 195), points(8, 196)), ([9] * 8, [8] * 8))

    def test_one_list_for_both(self):
        numbers = points(8, 197)
        self.check_manners(points16, (numbers, numbers), ([9] * 8, [8] * 8))


if __name__ == "__main__":
    unittest.main()
