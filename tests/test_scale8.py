"""Point 8: scale8."""

import unittest

from movingblocks.blocks import scale, scale8
from tests.helper import EDGES, CallCase, changed, filled, scaled_by_fractions, shorts


class Numbers(unittest.TestCase, CallCase):

    def test_each_by_its_own(self):
        a = [100, 200, 300, 400, 500, 600, 700, 800]
        by = [-32768, 16384, 0, -16384, 8192, -8192, 24576, 4096]
        self.check_answer(scale8, (a, by), [0, -100, 100, 0, -200, 125, -150, 525, 100])

    def test_each_place_of_a(self):
        for place in range(8):
            self.check_answer(
                scale8, (changed([-20] * 8, place, 600), [16384] * 8), [0] + changed([-10] * 8, place, 300))

    def test_each_place_of_by(self):
        for place in range(8):
            self.check_answer(
                scale8, ([600] * 8, changed([16384] * 8, place, -8192)), [0] + changed([300] * 8, place, -150))

    def test_the_ends(self):
        self.check_answer(
            scale8,
            ([-32768, -32768, 32767, 32767, -32768, 32767, 0, 0], [-32768, 32767, -32768, 32767, 0, 0, -32768, 32767]),
            [0, 32767, -32767, -32767, 32766, 0, 0, 0, 0])
        self.check_answer(scale8, ([-32768] * 8, [-32768] * 8), [0] + [32767] * 8)
        self.check_answer(
            scale8, ([-32767, -32766, -32768, -32768] * 2, [-32768, -32768, -32767, -32766] * 2),
            [0] + [32767, 32766, 32767, 32766] * 2)

    def test_0_then_8_numbers(self):
        given = scale8(shorts(8, 171), shorts(8, 172))
        self.assertEqual(given[0], 0)
        self.assertEqual(len(given), 9)


class Rounding(unittest.TestCase, CallCase):

    def test_just_a_half(self):
        # Half of an odd number, of both signs and by numbers of both signs: upwards each time.
        self.check_answer(
            scale8, ([1, 3, -1, -3, 1, 3, -1, -3], [16384] * 4 + [-16384] * 4), [0, 1, 2, 0, -1, 0, -1, 1, 2])
        self.check_answer(
            scale8, ([16384] * 4 + [-16384] * 4, [1, 3, -1, -3, 1, 3, -1, -3]), [0, 1, 2, 0, -1, 0, -1, 1, 2])

    def test_one_less_than_a_half(self):
        # 127 times 129 is 16383.
        self.check_answer(scale8, ([127, -127, 127, -127] * 2, [129, 129, -129, -129] * 2), [0] * 9)

    def test_one_more_than_a_half(self):
        # 5 times 3277 is 16385.
        self.check_answer(scale8, ([5, -5, 5, -5] * 2, [3277, 3277, -3277, -3277] * 2), [0] + [1, -1, -1, 1] * 2)

    def test_around_two_and_a_half(self):
        # 5 times 16384 is just 2 and a half times 32768.
        self.check_answer(
            scale8, ([16383, 16384, 16385, 0, -16383, -16384, -16385, 0], [5] * 8), [0, 2, 3, 3, 0, -2, -2, -3, 0])
        self.check_answer(
            scale8, ([16383, 16384, 16385, 0, -16383, -16384, -16385, 0], [-5] * 8), [0, -2, -2, -3, 0, 2, 3, 3, 0])

    def test_edges_by_edges(self):
        for number in EDGES:
            for start in range(len(EDGES) - 7):
                by = EDGES[start:start + 8]
                self.check_answer(
                    scale8, ([number] * 8, by), [0] + [scaled_by_fractions(number, factor) for factor in by])

    def test_unordered(self):
        for seed in range(173, 273):
            a = shorts(8, seed)
            by = shorts(8, seed + 1000)
            self.check_answer(scale8, (a, by), [0] + [scaled_by_fractions(a[k], by[k]) for k in range(8)])

    def test_as_scale_has_it(self):
        a = shorts(8, 174)
        for by in EDGES:
            self.check_answer(scale8, (a, [by] * 8), scale(by, filled(a))[:9])


class Manners(unittest.TestCase, CallCase):

    def test_answered(self):
        self.check_manners(scale8, (shorts(8, 175), shorts(8, 176)), ([9] * 8, [16384] * 8))

    def test_one_list_for_both(self):
        numbers = shorts(8, 177)
        self.check_manners(scale8, (numbers, numbers), ([9] * 8, [16384] * 8))


if __name__ == "__main__":
    unittest.main()
