"""Point 7: narrow."""

import unittest

from movingblocks.blocks import narrow
from tests.helper import BLOCK, CallCase, changed, filled, held, shorts, wholes

BELOW = [-32769, -32770, -65536, -65535, -98304, -2147483647, -2147483648]
ABOVE = [32768, 32769, 65535, 65536, 98303, 2147483646, 2147483647]


class Numbers(unittest.TestCase, CallCase):

    def test_within(self):
        inner = [0, 1, -1, 255, -255, 16384, -16384, 32766, -32767]
        self.check_answer(narrow, (filled(inner),), [0] + filled(inner))
        a = shorts(BLOCK, 161)
        self.check_answer(narrow, (a,), [0] + a)

    def test_every_short_number(self):
        for start in range(-32768, 32768, BLOCK):
            a = list(range(start, start + BLOCK))
            self.check_answer(narrow, (a,), [0] + a)

    def test_at_the_ends(self):
        for end in (-32768, 32767):
            self.check_answer(narrow, ([end] * BLOCK,), [0] + [end] * BLOCK)

    def test_below(self):
        for number in BELOW:
            self.check_answer(narrow, ([number] * BLOCK,), [0] + [-32768] * BLOCK)

    def test_above(self):
        for number in ABOVE:
            self.check_answer(narrow, ([number] * BLOCK,), [0] + [32767] * BLOCK)

    def test_unordered(self):
        a = wholes(BLOCK, 162)
        near = [number // 16384 for number in a]
        for numbers in (a, near):
            self.check_answer(narrow, (numbers,), [0] + [held(number, -32768, 32767) for number in numbers])

    def test_each_number_at_its_own_place(self):
        for place in range(BLOCK):
            self.check_answer(narrow, (changed([5] * BLOCK, place, 40000),), [0] + changed([5] * BLOCK, place, 32767))

    def test_0_then_256_numbers(self):
        given = narrow(wholes(BLOCK, 163))
        self.assertEqual(given[0], 0)
        self.assertEqual(len(given), 257)


class Manners(unittest.TestCase, CallCase):

    def test_answered(self):
        self.check_manners(narrow, (wholes(BLOCK, 164),), ([9] * BLOCK,))

    def test_answered_with_what_was_handed_in(self):
        self.check_manners(narrow, (shorts(BLOCK, 165),), ([9] * BLOCK,))


if __name__ == "__main__":
    unittest.main()
