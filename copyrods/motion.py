"""Fractions, and what a row of devices does to each point.

A fraction is a tuple, what is divided and by what, always in lowest terms with
the second number above 0: so two fractions are equal just if their tuples are.
A point is a tuple of two fractions, to the right and up.
"""

ZERO = (0, 1)
ONE = (1, 1)
MIDDLE = ((0, 1), (0, 1))


def common_divisor(one, other):
    """The greatest number that divides both, which are not below 0."""
    while other != 0:
        rest = one % other
        one = other
        other = rest
    return one


def fraction(divided, by):
    """The fraction in lowest terms; by is any number but 0."""
    divisor = common_divisor(abs(divided), abs(by))
    if by < 0:
        divisor = -divisor
    return (divided // divisor, by // divisor)


def plus(one, other):
    return fraction(one[0] * other[1] + other[0] * one[1], one[1] * other[1])


def minus(one, other):
    return fraction(one[0] * other[1] - other[0] * one[1], one[1] * other[1])


def times(one, other):
    return fraction(one[0] * other[0], one[1] * other[1])


def divided_by(one, other):
    return fraction(one[0] * other[1], one[1] * other[0])


def whole_point(right, up):
    return (fraction(right, 1), fraction(up, 1))


def step_between(start, end):
    """How far end lies to the right of start and above it, as a point is told."""
    return (minus(end[0], start[0]), minus(end[1], start[1]))


def square_between(start, end):
    """The square of how far two points lie from one another."""
    step = step_between(start, end)
    return plus(times(step[0], step[0]), times(step[1], step[1]))


def told_point(point):
    """The four numbers that tell a point."""
    return list(point[0]) + list(point[1])


class Motion:
    """What is done to each point: mirrored or not, then sized about the middle, then shifted.

    mirrors is 1 or 0, size a fraction (below 0: upside down), shift a point.
    """

    def __init__(self, mirrors, size, shift):
        self.mirrors = mirrors
        self.size = size
        self.shift = shift


def no_motion():
    return Motion(0, ONE, MIDDLE)


def sideways_size(motion):
    """How many times as far to the right a point comes: mirroring changes the sign there alone."""
    if motion.mirrors == 1:
        return minus(ZERO, motion.size)
    return motion.size


def moved(motion, point):
    right = plus(times(sideways_size(motion), point[0]), motion.shift[0])
    up = plus(times(motion.size, point[1]), motion.shift[1])
    return (right, up)


def about_pivot(pivot, size, mirrors):
    """The motion of one device: the shift is what keeps its pivot in its place."""
    pivot_copy = moved(Motion(mirrors, size, MIDDLE), pivot)
    return Motion(mirrors, size, step_between(pivot_copy, pivot))


def joined(first, second):
    """The one motion that does what first and then second do."""
    mirrors = (first.mirrors + second.mirrors) % 2
    return Motion(mirrors, times(first.size, second.size), moved(second, first.shift))


def shift_apart(first, second):
    """By how much a copy by first and then second lies beyond the one by second and then first.

    Mirroring and sizes do the same in either order, so the shifts alone tell it, for all points at once.
    """
    return step_between(joined(second, first).shift, joined(first, second).shift)


def told_motion(motion):
    """The seven numbers that tell a motion; two motions are the same just if these are."""
    return [motion.mirrors] + list(motion.size) + told_point(motion.shift)


def resting_place(size, shift):
    """The one place on an axis that comes to itself; size is not 1."""
    return divided_by(shift, minus(ONE, size))


def told_staying(motion):
    """Which points stay where they are, told as the call stays tells it."""
    sideways = sideways_size(motion)
    upward = motion.size
    right_kept = sideways == ONE
    up_kept = upward == ONE
    if (right_kept and motion.shift[0] != ZERO) or (up_kept and motion.shift[1] != ZERO):
        return [0]
    if right_kept and up_kept:
        return [4]
    if right_kept:
        return [3] + list(resting_place(upward, motion.shift[1]))
    if up_kept:
        return [2] + list(resting_place(sideways, motion.shift[0]))
    return [1] + told_point((resting_place(sideways, motion.shift[0]), resting_place(upward, motion.shift[1])))
