"""The calls on blocks: 16 rows of 16 points, row after row in one list."""

DONE = 0
REFUSED = -1

LEAST_POINT = 0
MOST_POINT = 255

LEAST_SHORT = -32768
MOST_SHORT = 32767
# What a short number is scaled by is told in parts of this many.
SCALE_PARTS = 32768

BLOCK_SIDE = 16
# One row and one column more than a block: what lies between its last points leans on them.
BETWEEN_SIDE = 17
WINDOW_SIDE = 48
# 48 - 16 + 1: a block that lay further on would reach over the window's end.
PLACES_A_SIDE = 33

LEAST_ROW_STEP = 16
MOST_ROW_STEP = 4096

MOST_NUMBERS = 1024

# One more than the greatest number that least8 takes: a place times this leaves room for the number below it.
PLACE_UNIT = 65536


def distance(a_row, b_row, a, b):
    """The sum of the differences between two blocks, without their signs."""
    if not is_row_step(a_row) or not is_row_step(b_row):
        return [REFUSED]
    return [sum_of_differences(a, b)]


def find(block, window):
    """The place in the window that is nearest to the block, then its distance."""
    # The places are gone through row after row, so that one's index here is 33 times its row and its column.
    distances = []
    for row in range(PLACES_A_SIDE):
        for column in range(PLACES_A_SIDE):
            distances.append(sum_of_differences(block, block_at(window, row, column)))
    return first_least(distances)


def least(n, l):
    """The place of the least of n numbers, then the number."""
    if n < 1 or n > MOST_NUMBERS:
        return [REFUSED]
    return first_least(l)


def between(across, down, a):
    """The block that lies half a point further across, down or both, predicted from the points around."""
    if across not in (0, 1) or down not in (0, 1):
        return [REFUSED]
    steps = steps_between(across, down)
    answer = [DONE]
    for y in range(BLOCK_SIDE):
        for x in range(BLOCK_SIDE):
            start = y * BETWEEN_SIDE + x
            answer.append(rounded_mean([a[start + step] for step in steps]))
    return answer


def mean(a, b):
    """The mean of two blocks, point by point."""
    return [DONE] + [rounded_mean([p, q]) for p, q in zip(a, b)]


def bright(by, a):
    """A block made brighter, or darker where by is below 0."""
    return [DONE] + [to_point(p + by) for p in a]


def rest(a, b):
    """What is left over of a block where b predicts it."""
    return [DONE] + [p - q for p, q in zip(a, b)]


def mend(a, rest):
    """A predicted block, with what was left over put back."""
    return [DONE] + [to_point(p + number) for p, number in zip(a, rest)]


def scale(by, a):
    """Short numbers, each times by and divided by 32768."""
    if by < LEAST_SHORT or by > MOST_SHORT:
        return [REFUSED]
    return [DONE] + [scaled(number, by) for number in a]


def sum_of(a, b):
    """The sums of short numbers, number by number."""
    return [DONE] + [to_short(p + q) for p, q in zip(a, b)]


def less(a, b):
    """Short numbers a less b, number by number."""
    return [DONE] + [to_short(p - q) for p, q in zip(a, b)]


def narrow(a):
    """Whole numbers made short ones, number by number."""
    return [DONE] + [to_short(number) for number in a]


def scale8(a, by):
    """Eight short numbers, each times its own number of by and divided by 32768."""
    return [DONE] + [scaled(number, factor) for number, factor in zip(a, by)]


def narrow8(a, b):
    """Twice four whole numbers made eight short ones."""
    return narrow(a + b)


def points16(a, b):
    """Twice eight short numbers made sixteen points."""
    return [DONE] + [to_point(number) for number in a + b]


def least8(a):
    """The least of eight numbers and its place, in one number."""
    found = first_least(a)
    return [PLACE_UNIT * found[0] + found[1]]


def is_row_step(step):
    """Whether rows may lie this far apart."""
    return LEAST_ROW_STEP <= step and step <= MOST_ROW_STEP


def sum_of_differences(a, b):
    """The differences of two lists of points, without their signs, in one sum."""
    return sum([abs(p - q) for p, q in zip(a, b)])


def block_at(window, row, column):
    """The block whose first point lies at this row and column of the window."""
    points = []
    for down in range(BLOCK_SIDE):
        start = (row + down) * WINDOW_SIDE + column
        points.extend(window[start:start + BLOCK_SIDE])
    return points


def first_least(numbers):
    """The place of the least number, the first of several, then the number."""
    number = min(numbers)
    return [numbers.index(number), number]


def steps_between(across, down):
    """How far behind a point, in the list of 17 rows of 17, the points of its mean lie."""
    steps = [0]
    if across == 1:
        steps.append(1)
    if down == 1:
        steps.append(BETWEEN_SIDE)
    if across == 1 and down == 1:
        steps.append(BETWEEN_SIDE + 1)
    return steps


def rounded_mean(numbers):
    """The mean as the nearest whole number, a half rounded up."""
    # Half the divisor ahead of the division, which rounds down, makes it round to the nearest.
    return (sum(numbers) + len(numbers) // 2) // len(numbers)


def to_point(number):
    """The number itself, or the end of the points' range that it lies beyond."""
    return max(LEAST_POINT, min(number, MOST_POINT))


def to_short(number):
    """The number itself, or the end of the short numbers' range that it lies beyond."""
    return max(LEAST_SHORT, min(number, MOST_SHORT))


def scaled(number, by):
    """The number times by, divided by 32768 and rounded to the nearest, a half upwards."""
    # The division rounds down, below 0 too: with half the divisor ahead of it a half always goes upwards.
    return to_short((number * by + SCALE_PARTS // 2) // SCALE_PARTS)
