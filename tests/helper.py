"""What several tests need: blocks and windows made by rule, and checks that hold for every call."""

import contextlib
import copy
import io
from fractions import Fraction

BLOCK = 256
WINDOW = 48
# Short numbers: the ends, their neighbours, and what lies around 0 and around the halves of the range.
EDGES = [-32768, -32767, -32766, -16385, -16384, -16383, -3, -2, -1, 0, 1, 2, 3, 16383, 16384, 16385, 32766, 32767]


def points(count, seed, most=255):
    """Numbers from 0 to most that look unordered, the same each time."""
    state = seed
    made = []
    for _ in range(count):
        state = (state * 1103515245 + 12345) % 2147483648
        made.append((state >> 8) % (most + 1))
    return made


def shorts(count, seed):
    """Numbers from -32768 to 32767 that look unordered, the same each time."""
    return [number - 32768 for number in points(count, seed, 65535)]


def wholes(count, seed):
    """Numbers from -2147483648 to 2147483647 that look unordered, the same each time."""
    return [65536 * high + low for high, low in zip(shorts(count, seed), points(count, seed + 1, 65535))]


def put(window, block, row, column):
    """A copy of the window in which the block lies at row and column."""
    made = list(window)
    for y in range(16):
        for x in range(16):
            made[(row + y) * WINDOW + column + x] = block[y * 16 + x]
    return made


def changed(numbers, place, number):
    """A copy with another number at one place."""
    made = list(numbers)
    made[place] = number
    return made


def nearest(fraction):
    """The nearest whole number, a half rounded up."""
    below = fraction.numerator // fraction.denominator
    return below + 1 if fraction - below >= Fraction(1, 2) else below


def held(number, least, most):
    """The number, or the end that it lies beyond."""
    return least if number < least else most if number > most else number


def scaled_by_fractions(number, by):
    """A short number as scale is to answer it."""
    return held(nearest(Fraction(number * by, 32768)), -32768, 32767)


def filled(numbers):
    """The numbers, and zeros up to as many as a block has."""
    return numbers + [0] * (BLOCK - len(numbers))


class Untouched(list):
    """A list that doesn't let itself be changed, not for a while either."""

    def refuse(self, *args, **kwargs):
        raise AssertionError("what was handed in is being changed")

    __setitem__ = __delitem__ = __iadd__ = __imul__ = refuse
    append = clear = extend = insert = pop = remove = reverse = sort = refuse


class CallCase:
    """Checks for a unittest.TestCase that hold for every call."""

    def check_answer(self, call, handed, answer):
        """The call gives back the answer, as a list of ints."""
        given = call(*handed)
        self.assertEqual(given, answer)
        self.assertIs(type(given), list)
        for number in given:
            self.assertIs(type(number), int)

    def check_manners(self, call, handed, others):
        """Nothing handed in is changed, nothing is kept and nothing is printed.

        others: values for a call in between, with another answer.
        """
        before = copy.deepcopy(handed)
        printed = io.StringIO()
        with contextlib.redirect_stdout(printed), contextlib.redirect_stderr(printed):
            first = call(*handed)
            kept = list(first)
            self.assertEqual(handed, before)
            self.assertNotEqual(call(*others), kept)
            # Whoever has an answer may write into it: the next one is another list.
            first.append(7)
            first[0] = 99
            self.assertEqual(call(*handed), kept)
            self.assertEqual(handed, before)
            guarded = [Untouched(x) if isinstance(x, list) else x for x in handed]
            self.assertEqual(call(*guarded), kept)
        self.assertEqual(printed.getvalue(), "")
