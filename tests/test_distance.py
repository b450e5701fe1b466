"""Point 1: distance."""

import unittest

from movingblocks.blocks import distance
from tests.helper import BLOCK, CallCase, changed, points

REFUSED_STEPS = (0, 15, 4097, 4294967295)


class Sum(unittest.TestCase, CallCase):

    def test_equal_blocks(self):
        block = points(BLOCK, 1)
        self.check_answer(distance, (16, 16, block, list(block)), [0])
        self.check_answer(distance, (16, 16, block, block), [0])

    def test_differences_of_both_signs_add_up(self):
        self.check_answer(distance, (16, 16, [10, 3] * 128, [3, 10] * 128), [7 * 256])
        self.check_answer(distance, (16, 16, [200] * 128 + [0] * 128, [190] * 128 + [1] * 128), [1280 + 128])

    def test_one_sign_alone(self):
        self.check_answer(distance, (16, 16, [9] * BLOCK, [7] * BLOCK), [512])
        self.check_answer(distance, (16, 16, [7] * BLOCK, [9] * BLOCK), [512])

    def test_greatest_differences(self):
        self.check_answer(distance, (16, 16, [0] * BLOCK, [255] * BLOCK), [65280])
        self.check_answer(distance, (16, 16, [255] * BLOCK, [0] * BLOCK), [65280])
        self.check_answer(distance, (16, 16, [0, 255] * 128, [255, 0] * 128), [65280])

    def test_each_point_counts_once(self):
        plain = [100] * BLOCK
        for place in range(BLOCK):
            self.check_answer(distance, (16, 16, changed(plain, place, 255), plain), [155])
            self.check_answer(distance, (16, 16, plain, changed(plain, place, 255)), [155])

    def test_unordered_blocks(self):
        a = points(BLOCK, 2)
        b = points(BLOCK, 3)
        total = 0
        for k in range(BLOCK):
            total += a[k] - b[k] if a[k] > b[k] else b[k] - a[k]
        self.check_answer(distance, (16, 16, a, b), [total])
        self.check_answer(distance, (16, 16, b, a), [total])


class Rows(unittest.TestCase, CallCase):

    def test_steps_say_nothing_of_the_blocks(self):
        a = points(BLOCK, 4)
        b = points(BLOCK, 5)
        answer = distance(16, 16, a, b)
        self.assertGreater(answer[0], 0)
        for step in (16, 17, 48, 4095, 4096):
            self.check_answer(distance, (step, 16, a, b), answer)
            self.check_answer(distance, (16, step, a, b), answer)
            self.check_answer(distance, (step, 4096, a, b), answer)
            self.check_answer(distance, (4096, step, a, b), answer)

    def test_a_row_refused(self):
        for step in REFUSED_STEPS:
            for other in (16, 100, 4096):
                self.check_answer(distance, (step, other, [], []), [-1])

    def test_b_row_refused(self):
        for step in REFUSED_STEPS:
            for other in (16, 100, 4096):
                self.check_answer(distance, (other, step, [], []), [-1])

    def test_both_refused(self):
        for step in REFUSED_STEPS:
            for other in REFUSED_STEPS:
                self.check_answer(distance, (step, other, [], []), [-1])


class Manners(unittest.TestCase, CallCase):

    def test_answered(self):
        handed = (16, 4096, points(BLOCK, 6), points(BLOCK, 7))
        self.check_manners(distance, handed, (16, 16, [1] * BLOCK, [2] * BLOCK))

    def test_refused(self):
        self.check_manners(distance, (15, 16, [], []), (16, 16, [1] * BLOCK, [2] * BLOCK))


if __name__ == "__main__":
    unittest.main()
