"""What the document promises of every call alike: what is given back, and what stays as it was."""

import unittest

from movingblocks import blocks
from tests.helper import BLOCK, CallCase, points, shorts, wholes

BETWEEN = 289
WINDOW_POINTS = 2304

# A call, what it is handed, and how many numbers it answers.
ANSWERED = (
    ("distance", (16, 4096, points(BLOCK, 301), points(BLOCK, 302)), 1),
    ("find", (points(BLOCK, 303), points(WINDOW_POINTS, 304)), 2),
    ("least", (1024, points(1024, 305, 65535)), 2),
    ("least", (1, [65535]), 2),
    ("between", (0, 0, points(BETWEEN, 306)), 257),
    ("between", (1, 0, points(BETWEEN, 307)), 257),
    ("between", (0, 1, points(BETWEEN, 308)), 257),
    ("between", (1, 1, points(BETWEEN, 309)), 257),
    ("mean", (points(BLOCK, 310), points(BLOCK, 311)), 257),
    ("bright", (-30, points(BLOCK, 312)), 257),
    ("bright", (2147483647, points(BLOCK, 313)), 257),
    ("rest", (points(BLOCK, 314), points(BLOCK, 315)), 257),
    ("mend", (points(BLOCK, 316), shorts(BLOCK, 317)), 257),
    ("scale", (-12345, shorts(BLOCK, 318)), 257),
    ("sum_of", (shorts(BLOCK, 319), shorts(BLOCK, 320)), 257),
    ("less", (shorts(BLOCK, 321), shorts(BLOCK, 322)), 257),
    ("narrow", (wholes(BLOCK, 323),), 257),
    ("scale8", (shorts(8, 324), shorts(8, 325)), 9),
    ("narrow8", (wholes(4, 326), wholes(4, 327)), 9),
    ("points16", (shorts(8, 328), shorts(8, 329)), 17),
    ("least8", (points(8, 330, 65535),), 1),
)

REFUSED = (
    ("distance", (15, 16, [], [])),
    ("distance", (16, 4294967295, [], [])),
    ("least", (0, [])),
    ("least", (1025, [])),
    ("between", (2, 0, points(BETWEEN, 331))),
    ("between", (0, -1, points(BETWEEN, 332))),
    ("scale", (32768, shorts(BLOCK, 333))),
    ("scale", (-32769, shorts(BLOCK, 334))),
)

# For each call values with an answer that none above has.
OTHERS = {
    "distance": (16, 16, [1] * BLOCK, [2] * BLOCK),
    "find": ([97] * BLOCK, [100] * WINDOW_POINTS),
    "least": (3, [2, 1, 2]),
    "between": (1, 1, [9] * BETWEEN),
    "mean": ([1] * BLOCK, [2] * BLOCK),
    "bright": (5, [9] * BLOCK),
    "rest": ([1] * BLOCK, [2] * BLOCK),
    "mend": ([1] * BLOCK, [2] * BLOCK),
    "scale": (16384, [9] * BLOCK),
    "sum_of": ([1] * BLOCK, [2] * BLOCK),
    "less": ([1] * BLOCK, [2] * BLOCK),
    "narrow": ([9] * BLOCK,),
    "scale8": ([9] * 8, [16384] * 8),
    "narrow8": ([9] * 4, [8] * 4),
    "points16": ([9] * 8, [8] * 8),
    "least8": ([7] * 8,),
}


class GivenBack(unittest.TestCase):

    def check_kinds(self, name, given):
        self.assertIs(type(given), list, name)
        for number in given:
            # True and False are ints of a kind of their own, so that isinstance would let them pass.
            self.assertIs(type(number), int, name)

    def test_as_many_numbers_as_the_words_tell(self):
        for name, handed, count in ANSWERED:
            given = getattr(blocks, name)(*handed)
            self.check_kinds(name, given)
            self.assertEqual(len(given), count, name)
            if count > 2:
                self.assertEqual(given[0], 0, name)

    def test_a_refusal_alone(self):
        for name, handed in REFUSED:
            given = getattr(blocks, name)(*handed)
            self.check_kinds(name, given)
            self.assertEqual(given, [-1], name)

    def test_an_own_list(self):
        for name, handed, count in ANSWERED:
            given = getattr(blocks, name)(*handed)
            for value in handed:
                self.assertIsNot(given, value, name)


class Manners(unittest.TestCase, CallCase):

    def test_no_call_is_left_out(self):
        self.assertEqual(len(OTHERS), 16)
        self.assertEqual({name for name, handed, count in ANSWERED}, set(OTHERS))

    def test_nothing_changed_nothing_kept(self):
        for name, handed, count in ANSWERED:
            with self.subTest(name):
                self.check_manners(getattr(blocks, name), handed, OTHERS[name])

    def test_refusals_too(self):
        for name, handed in REFUSED:
            with self.subTest(name):
                self.check_manners(getattr(blocks, name), handed, OTHERS[name])

    def test_calls_in_another_order(self):
        forwards = [getattr(blocks, name)(*handed) for name, handed, count in ANSWERED]
        backwards = [getattr(blocks, name)(*handed) for name, handed, count in reversed(ANSWERED)]
        self.assertEqual(forwards, backwards[::-1])


if __name__ == "__main__":
    unittest.main()
