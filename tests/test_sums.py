"""Point 7: sum_of and less."""

import unittest

from movingblocks.blocks import less, sum_of
from tests.helper import BLOCK, EDGES, CallCase, changed, filled, held, shorts


class PairCase(CallCase):
    """Checks for calls that answer number by number of a and of b."""

    def check_pairs(self, call, cases):
        """cases: a number of a, one of b, and what they come to."""
        a, b, answers = [list(column) for column in zip(*cases)]
        self.check_answer(call, (filled(a), filled(b)), [0] + filled(answers))
        for p, q, answer in cases:
            self.check_answer(call, ([p] * BLOCK, [q] * BLOCK), [0] + [answer] * BLOCK)

    def check_each_place(self, call, by_a, by_b):
        """by_a, by_b: what 600 beside 7, and 7 beside 600, come to."""
        plain = [7] * BLOCK
        rest = call(plain, plain)[1:]
        for place in range(BLOCK):
            other = changed(plain, place, 600)
            self.check_answer(call, (other, plain), [0] + changed(rest, place, by_a))
            self.check_answer(call, (plain, other), [0] + changed(rest, place, by_b))

    def check_against(self, call, exact):
        """exact: what two numbers come to where there are no ends."""
        for p in EDGES:
            answers = [held(exact(p, q), -32768, 32767) for q in EDGES]
            self.check_answer(call, ([p] * BLOCK, (EDGES * 15)[:BLOCK]), [0] + (answers * 15)[:BLOCK])
        for seed in range(140, 160, 2):
            a = shorts(BLOCK, seed)
            b = shorts(BLOCK, seed + 1)
            answers = [held(exact(a[k], b[k]), -32768, 32767) for k in range(BLOCK)]
            self.check_answer(call, (a, b), [0] + answers)

    def check_length(self, call):
        given = call(shorts(BLOCK, 131), shorts(BLOCK, 132))
        self.assertEqual(given[0], 0)
        self.assertEqual(len(given), 257)

    def check_pair_manners(self, call):
        block = shorts(BLOCK, 133)
        self.check_manners(call, (block, shorts(BLOCK, 134)), ([1] * BLOCK, [2] * BLOCK))
        self.check_manners(call, (block, block), ([1] * BLOCK, [2] * BLOCK))


class SumOf(unittest.TestCase, PairCase):

    def test_within(self):
        self.check_pairs(sum_of, [
            (0, 0, 0), (4, 9, 13), (-4, 9, 5), (4, -9, -5), (-4, -9, -13), (-32768, 32767, -1), (32767, -32768, -1),
            (32767, 0, 32767), (0, -32768, -32768)])

    def test_just_at_the_ends(self):
        self.check_pairs(sum_of, [
            (32766, 1, 32767), (16383, 16384, 32767), (1, 32766, 32767), (32766, 0, 32766),
            (-32767, -1, -32768), (-16384, -16384, -32768), (-1, -32767, -32768), (-32767, 0, -32767)])

    def test_one_beyond_the_ends(self):
        self.check_pairs(sum_of, [
            (32767, 1, 32767), (16384, 16384, 32767), (1, 32767, 32767),
            (-32768, -1, -32768), (-16385, -16384, -32768), (-1, -32768, -32768)])

    def test_twice_the_least_and_the_greatest(self):
        self.check_pairs(sum_of, [(-32768, -32768, -32768), (32767, 32767, 32767)])

    def test_edges_and_unordered(self):
        self.check_against(sum_of, lambda p, q: p + q)

    def test_each_number_at_its_own_place(self):
        self.check_each_place(sum_of, 607, 607)

    def test_0_then_256_numbers(self):
        self.check_length(sum_of)

    def test_manners(self):
        self.check_pair_manners(sum_of)


class Less(unittest.TestCase, PairCase):

    def test_within(self):
        self.check_pairs(less, [
            (0, 0, 0), (4, 9, -5), (-4, 9, -13), (4, -9, 13), (-4, -9, 5), (-32768, -32768, 0), (32767, 32767, 0),
            (32767, 0, 32767), (-32768, 0, -32768), (0, 32767, -32767)])

    def test_just_at_the_ends(self):
        self.check_pairs(less, [
            (32766, -1, 32767), (16383, -16384, 32767), (-1, -32768, 32767), (0, -32767, 32767), (-2, -32768, 32766),
            (-32767, 1, -32768), (-16384, 16384, -32768), (-1, 32767, -32768), (-32766, 1, -32767)])

    def test_one_beyond_the_ends(self):
        self.check_pairs(less, [
            (32767, -1, 32767), (16384, -16384, 32767), (0, -32768, 32767), (1, -32767, 32767),
            (-32768, 1, -32768), (-16385, 16384, -32768), (-2, 32767, -32768)])

    def test_the_least_and_the_greatest(self):
        self.check_pairs(less, [(-32768, 32767, -32768), (32767, -32768, 32767)])

    def test_edges_and_unordered(self):
        self.check_against(less, lambda p, q: p - q)

    def test_each_number_at_its_own_place(self):
        self.check_each_place(less, 593, -593)

    def test_0_then_256_numbers(self):
        self.check_length(less)

    def test_manners(self):
        self.check_pair_manners(less)


if __name__ == "__main__":
    unittest.main()
