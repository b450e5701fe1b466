"""Point 8: narrow8."""

import unittest

from movingblocks.blocks import narrow8
from tests.helper import CallCase, changed, held, shorts, wholes

# A number, and what it comes to.
CASES = (
    (0, 0), (1, 1), (-1, -1), (32766, 32766), (-32767, -32767),
    (32767, 32767), (-32768, -32768), (32768, 32767), (-32769, -32768),
    (65535, 32767), (65536, 32767), (-65535, -32768), (-65536, -32768),
    (2147483646, 32767), (2147483647, 32767), (-2147483647, -32768), (-2147483648, -32768),
)


class Numbers(unittest.TestCase, CallCase):

    def test_a_then_b_in_their_order(self):
        self.check_answer(narrow8, ([1, 2, 3, 4], [5, 6, 7, 8]), [0, 1, 2, 3, 4, 5, 6, 7, 8])
        self.check_answer(narrow8, ([8, -7, 6, -5], [4, -3, 2, -1]), [0, 8, -7, 6, -5, 4, -3, 2, -1])

    def test_the_ends_and_beyond(self):
        for number, answer in CASES:
            self.check_answer(narrow8, ([number] * 4, [5] * 4), [0] + [answer] * 4 + [5] * 4)
            self.check_answer(narrow8, ([5] * 4, [number] * 4), [0] + [5] * 4 + [answer] * 4)

    def test_each_place(self):
        plain = [1, 2, 3, 4, 5, 6, 7, 8]
        for number, answer in CASES:
            for place in range(8):
                numbers = changed(plain, place, number)
                self.check_answer(narrow8, (numbers[:4], numbers[4:]), [0] + changed(plain, place, answer))

    def test_unordered(self):
        for seed in range(180, 280):
            numbers = wholes(8, seed)
            for a in (numbers, [number // 16384 for number in numbers]):
                self.check_answer(narrow8, (a[:4], a[4:]), [0] + [held(number, -32768, 32767) for number in a])

    def test_0_then_8_numbers(self):
        given = narrow8(wholes(4, 181), wholes(4, 182))
        self.assertEqual(given[0], 0)
        self.assertEqual(len(given), 9)


class Manners(unittest.TestCase, CallCase):

    def test_answered(self):
        self.check_manners(narrow8, (wholes(4, 183), wholes(4, 184)), ([9] * 4, [8] * 4))

    def test_one_list_for_both(self):
        numbers = shorts(4, 185)
        self.check_manners(narrow8, (numbers, numbers), ([9] * 4, [8] * 4))


if __name__ == "__main__":
    unittest.main()
