"""The calls on blocks: 16 rows of 16 points, row after row in one list."""

REFUSED = -1

BLOCK_SIDE = 16
WINDOW_SIDE = 48
# 48 - 16 + 1: a block that lay further on would reach over the window's end.
PLACES_A_SIDE = 33

LEAST_ROW_STEP = 16
MOST_ROW_STEP = 4096

MOST_NUMBERS = 1024


def distance(a_row, b_row, a, b):
    """The sum of the differences between two blocks, without their signs."""
    if not is_row_step(a_row) or not is_row_step(b_row):
        return [REFUSED]
    return [sum_of_differences(a, b)]


def find(block, window):
    """The place in the window that is nearest to the block, then its distance."""
    # The places are gone through row after row, so that one's index here is 33 times its row and its column.
    distances = []
    for row in range(PLACES_A_SIDE):
        for column in range(PLACES_A_SIDE):
            distances.append(sum_of_differences(block, block_at(window, row, column)))
    return first_least(distances)


def least(n, l):
    """The place of the least of n numbers, then the number."""
    if n < 1 or n > MOST_NUMBERS:
        return [REFUSED]
    return first_least(l)


def is_row_step(step):
    """Whether rows may lie this far apart."""
    return LEAST_ROW_STEP <= step and step <= MOST_ROW_STEP


def sum_of_differences(a, b):
    """The differences of two lists of points, without their signs, in one sum."""
    return sum([abs(p - q) for p, q in zip(a, b)])


def block_at(window, row, column):
    """The block whose first point lies at this row and column of the window."""
    points = []
    for down in range(BLOCK_SIDE):
        start = (row + down) * WINDOW_SIDE + column
        points.extend(window[start:start + BLOCK_SIDE])
    return points


def first_least(numbers):
    """The place of the least number, the first of several, then the number."""
    number = min(numbers)
    return [numbers.index(number), number]
