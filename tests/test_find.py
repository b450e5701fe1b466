"""Point 2: find."""

import unittest

from movingblocks.blocks import find
from tests.helper import BLOCK, WINDOW, CallCase, changed, points, put

WHOLE = WINDOW * WINDOW


def told_plainly(block, window):
    """The answer by point 2's own words, point by point."""
    best = None
    for row in range(33):
        for column in range(33):
            total = 0
            for y in range(16):
                for x in range(16):
                    total += abs(window[(row + y) * 48 + column + x] - block[y * 16 + x])
            if best is None or total < best[1]:
                best = [33 * row + column, total]
    return best


class Places(unittest.TestCase, CallCase):

    def check_place(self, row, column):
        block = points(BLOCK, 11)
        window = put(points(WHOLE, 12), block, row, column)
        self.check_answer(find, (block, window), [33 * row + column, 0])

    def test_first_place(self):
        self.check_place(0, 0)

    def test_last_place(self):
        self.check_place(32, 32)

    def test_ends_of_rows(self):
        for row, column in ((0, 32), (1, 0), (1, 32), (17, 0), (17, 32), (31, 32), (32, 0)):
            self.check_place(row, column)

    def test_in_between(self):
        for row, column in ((0, 1), (1, 1), (3, 20), (20, 3), (16, 16), (32, 15), (31, 31), (32, 31)):
            self.check_place(row, column)


class Several(unittest.TestCase, CallCase):

    def check_two(self, first, second):
        block = points(BLOCK, 13)
        window = put(put(points(WHOLE, 14), block, *second), block, *first)
        self.check_answer(find, (block, window), [33 * first[0] + first[1], 0])

    def test_two_in_one_row(self):
        self.check_two((4, 3), (4, 20))

    def test_two_in_one_column(self):
        self.check_two((3, 8), (25, 8))

    def test_the_row_goes_ahead_of_the_column(self):
        self.check_two((4, 30), (21, 2))

    def test_first_and_last(self):
        self.check_two((0, 0), (32, 32))

    def test_all_places_alike(self):
        self.check_answer(find, ([9] * BLOCK, [9] * WHOLE), [0, 0])
        self.check_answer(find, ([97] * BLOCK, [100] * WHOLE), [0, 768])
        self.check_answer(find, ([0] * BLOCK, [255] * WHOLE), [0, 65280])
        self.check_answer(find, ([255] * BLOCK, [0] * WHOLE), [0, 65280])

    def test_several_at_a_distance_above_nothing(self):
        block = points(BLOCK, 15, 200)
        near = changed(block, 40, block[40] + 5)
        as_near = changed(block, 200, block[200] + 5)
        window = put(put([255] * WHOLE, near, 20, 1), as_near, 2, 31)
        self.check_answer(find, (block, window), [33 * 2 + 31, 5])
        window = put(put([255] * WHOLE, as_near, 20, 1), near, 2, 31)
        self.check_answer(find, (block, window), [33 * 2 + 31, 5])


class NotThere(unittest.TestCase, CallCase):

    def test_the_nearest_is_told(self):
        block = points(BLOCK, 16)
        near = changed(block, 255, (block[255] + 100) % 256)
        away = abs(near[255] - block[255])
        for row, column in ((0, 0), (9, 27), (32, 32)):
            window = put(points(WHOLE, 17), near, row, column)
            self.check_answer(find, (block, window), [33 * row + column, away])

    def test_a_later_one_that_is_nearer(self):
        block = points(BLOCK, 18, 200)
        near = changed(block, 0, block[0] + 9)
        nearer = changed(block, 0, block[0] + 8)
        window = put(put(points(WHOLE, 19), near, 1, 1), nearer, 30, 12)
        self.check_answer(find, (block, window), [33 * 30 + 12, 8])

    def test_unordered(self):
        for seed in (21, 22, 23):
            block = points(BLOCK, seed)
            window = points(WHOLE, seed + 100)
            answer = told_plainly(block, window)
            self.assertGreater(answer[1], 0)
            self.check_answer(find, (block, window), answer)

    def test_a_block_does_not_run_on_into_the_next_row(self):
        block = points(BLOCK, 24)
        for column in (33, 40, 47):
            # These points are the block's, but its rows would be broken by the window's right end.
            window = points(WHOLE, 25)
            for y in range(16):
                start = (10 + y) * WINDOW + column
                window[start:start + 16] = block[y * 16:y * 16 + 16]
            self.assertEqual(len(window), WHOLE)
            answer = told_plainly(block, window)
            self.assertGreater(answer[1], 0)
            self.check_answer(find, (block, window), answer)

    def test_a_block_does_not_reach_below_the_window(self):
        block = points(BLOCK, 26)
        # All but the last row lies at the lower end, one row below the last place.
        window = points(WHOLE, 27)
        for y in range(15):
            start = (33 + y) * WINDOW + 5
            window[start:start + 16] = block[y * 16:y * 16 + 16]
        answer = told_plainly(block, window)
        self.check_answer(find, (block, window), answer)


class Manners(unittest.TestCase, CallCase):

    def test_answered(self):
        block = points(BLOCK, 28)
        handed = (block, put(points(WHOLE, 29), block, 6, 7))
        self.check_manners(find, handed, (points(BLOCK, 30), points(WHOLE, 31)))


if __name__ == "__main__":
    unittest.main()
