"""Point 7: scale."""

import unittest

from movingblocks.blocks import scale
from tests.helper import BLOCK, EDGES, CallCase, changed, filled, scaled_by_fractions, shorts


class By(unittest.TestCase, CallCase):

    def check_numbers(self, by, pairs):
        """pairs: a number, and what it comes to."""
        numbers = [number for number, answer in pairs]
        answers = [answer for number, answer in pairs]
        self.check_answer(scale, (by, filled(numbers)), [0] + filled(answers))

    def test_0(self):
        self.check_answer(scale, (0, filled(EDGES)), [0] * 257)

    def test_1(self):
        self.check_numbers(1, [
            (16383, 0), (16384, 1), (16385, 1), (32767, 1), (1, 0), (0, 0), (-1, 0),
            (-16383, 0), (-16384, 0), (-16385, -1), (-32767, -1), (-32768, -1)])

    def test_less_1(self):
        self.check_numbers(-1, [
            (16383, 0), (16384, 0), (16385, -1), (32767, -1), (1, 0), (0, 0), (-1, 0),
            (-16383, 0), (-16384, 1), (-16385, 1), (-32767, 1), (-32768, 1)])

    def test_a_half(self):
        self.check_numbers(16384, [
            (4, 2), (3, 2), (2, 1), (1, 1), (0, 0), (-1, 0), (-2, -1), (-3, -1), (-4, -2), (-5, -2),
            (32767, 16384), (32766, 16383), (-32767, -16383), (-32768, -16384)])

    def test_less_a_half(self):
        self.check_numbers(-16384, [
            (4, -2), (3, -1), (2, -1), (1, 0), (0, 0), (-1, 1), (-2, 1), (-3, 2), (-4, 2), (-5, 3),
            (32767, -16383), (32766, -16383), (-32767, 16384), (-32768, 16384)])

    def test_the_greatest(self):
        self.check_numbers(32767, [
            (1, 1), (-1, -1), (16383, 16383), (16384, 16384), (16385, 16384), (-16383, -16383), (-16384, -16383),
            (-16385, -16384), (32767, 32766), (-32767, -32766), (-32768, -32767)])

    def test_the_least(self):
        self.check_numbers(-32768, [(1, -1), (-1, 1), (12345, -12345), (-12345, 12345), (32767, -32767), (0, 0)])

    def test_the_least_by_the_least(self):
        self.check_numbers(-32768, [(-32768, 32767), (-32767, 32767), (-32766, 32766)])
        self.check_answer(scale, (-32768, [-32768] * BLOCK), [0] + [32767] * BLOCK)


class Rounding(unittest.TestCase, CallCase):

    def test_around_a_half_of_both_signs(self):
        # 3 times 27306 and 27307 are 2 less and 1 more than 2 and a half times 32768.
        self.check_answer(scale, (3, [27306, 27307] * 128), [0] + [2, 3] * 128)
        self.check_answer(scale, (3, [-27306, -27307] * 128), [0] + [-2, -3] * 128)
        self.check_answer(scale, (-3, [27306, 27307] * 128), [0] + [-2, -3] * 128)
        # 5 times 16384 is just 2 and a half times 32768.
        self.check_answer(scale, (5, [16383, 16384, 16385, 0] * 64), [0] + [2, 3, 3, 0] * 64)
        self.check_answer(scale, (5, [-16383, -16384, -16385, 0] * 64), [0] + [-2, -2, -3, 0] * 64)
        self.check_answer(scale, (-5, [16383, 16384, 16385, 0] * 64), [0] + [-2, -2, -3, 0] * 64)
        self.check_answer(scale, (-5, [-16383, -16384, -16385, 0] * 64), [0] + [2, 3, 3, 0] * 64)

    def test_one_less_and_one_more_than_a_half(self):
        # 127 times 129 is 16383, and 5 times 3277 is 16385: beside the half of 32768.
        self.check_answer(scale, (127, [129, -129] * 128), [0] + [0, 0] * 128)
        self.check_answer(scale, (5, [3277, -3277] * 128), [0] + [1, -1] * 128)
        self.check_answer(scale, (-127, [129, -129] * 128), [0] + [0, 0] * 128)

    def test_edges_by_edges(self):
        for by in EDGES:
            answers = [scaled_by_fractions(number, by) for number in EDGES]
            self.check_answer(scale, (by, filled(EDGES)), [0] + filled(answers))

    def test_unordered(self):
        for by in shorts(40, 121):
            a = shorts(BLOCK, by + 40000)
            self.check_answer(scale, (by, a), [0] + [scaled_by_fractions(number, by) for number in a])

    def test_each_number_at_its_own_place(self):
        for place in range(BLOCK):
            self.check_answer(
                scale, (16384, changed([-20] * BLOCK, place, 600)), [0] + changed([-10] * BLOCK, place, 300))

    def test_0_then_256_numbers(self):
        for by in (-32768, -1, 0, 1, 32767):
            given = scale(by, shorts(BLOCK, 122))
            self.assertEqual(given[0], 0)
            self.assertEqual(len(given), 257)


class Refused(unittest.TestCase, CallCase):

    def test_another_by(self):
        for by in (32768, -32769, 2147483647, -2147483648):
            self.check_answer(scale, (by, [0] * BLOCK), [-1])
            self.check_answer(scale, (by, shorts(BLOCK, 123)), [-1])


class Manners(unittest.TestCase, CallCase):

    def test_answered(self):
        for by in (-32768, 0, 12345):
            self.check_manners(scale, (by, shorts(BLOCK, 124)), (16384, [9] * BLOCK))

    def test_refused(self):
        self.check_manners(scale, (32768, shorts(BLOCK, 125)), (16384, [9] * BLOCK))


if __name__ == "__main__":
    unittest.main()
