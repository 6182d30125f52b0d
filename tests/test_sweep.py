"""Many rows, each held against what the devices do point by point."""

import itertools
import unittest
from fractions import Fraction

from calling import BEGIN, LONGEST_ROW, ask_after, copy, device, row, same, stays

WORKSHOPS = (
    ((10, 20, 3, 2, 0, 0), (-4, 6, 2, 6, 1, 0), (5, -8, 2, 1, 0, 1),
     (-100, 100, 9, 7, 1, 1), (1, 0, 1, 1, 1, 1), (0, 3, 1, 1, 0, 1)),
    ((0, 0, 2, 1, 0, 0), (0, 0, 1, 2, 0, 0), (3, 0, 1, 1, 1, 0),
     (3, 0, 2, 1, 1, 1), (3, 5, 1, 2, 1, 1), (0, 5, 4, 4, 0, 1)),
)
POINTS = ((0, 0), (1, 0), (0, 1), (-100, 37), (100, -100))


def copied(numbers, point):
    right, up, a, b, upside, mirrors = numbers
    sideways, upward = point[0] - right, point[1] - up
    if mirrors:
        sideways = -sideways
    sideways, upward = sideways * Fraction(a, b), upward * Fraction(a, b)
    if upside:
        sideways, upward = -sideways, -upward
    return (right + sideways, up + upward)


def copied_by_row(devices, numbers, point):
    for number in numbers:
        point = copied(devices[number], point)
    return point


def told(*fractions):
    return [part for fraction in map(Fraction, fractions) for part in (fraction.numerator, fraction.denominator)]


def frame(devices, numbers):
    """Where the middle comes, and how far to the right and up from there one step comes."""
    middle = copied_by_row(devices, numbers, (0, 0))
    sideways = copied_by_row(devices, numbers, (1, 0))[0] - middle[0]
    upward = copied_by_row(devices, numbers, (0, 1))[1] - middle[1]
    return middle, sideways, upward


def row_told(devices, numbers):
    middle, sideways, upward = frame(devices, numbers)
    return [int(sideways != upward)] + told(upward, *middle)


def axis_staying(step, shift):
    """All places of an axis that stay: "all", or a list of them."""
    if step == 1:
        return "all" if shift == 0 else []
    return [shift / (1 - step)]


def staying_told(devices, numbers):
    middle, sideways, upward = frame(devices, numbers)
    rights, ups = axis_staying(sideways, middle[0]), axis_staying(upward, middle[1])
    if rights == [] or ups == []:
        return [0]
    if rights == "all":
        return [4] if ups == "all" else [3] + told(*ups)
    return [2] + told(*rights) if ups == "all" else [1] + told(*rights, *ups)


def rows_to_try():
    """All short rows, and some of the longer ones."""
    rows = [numbers for length in range(4) for numbers in itertools.product(range(6), repeat=length)]
    for length in range(4, LONGEST_ROW + 1):
        rows += list(itertools.product(range(6), repeat=length))[::37]
    return rows


class Sweep(unittest.TestCase):
    def held(self, call_of, expected_of):
        for devices in WORKSHOPS:
            opening = [BEGIN] + [device(*numbers) for numbers in devices]
            rows = rows_to_try()
            given = ask_after(opening, [call_of(numbers) for numbers in rows])
            expected = [expected_of(devices, numbers) for numbers in rows]
            for numbers, got, due in zip(rows, given, expected, strict=True):
                self.assertEqual(got, due, f"row {numbers} of {devices}")

    def test_row(self):
        self.held(lambda numbers: row(*numbers), row_told)

    def test_stays(self):
        self.held(lambda numbers: stays(*numbers), staying_told)

    def test_copy(self):
        for point in POINTS:
            self.held(
                lambda numbers: copy(*point, numbers),
                lambda devices, numbers: [0] + told(*copied_by_row(devices, numbers, point)))

    def test_same(self):
        for other in ((), (0,), (0, 1), (3, 4), (2, 2)):
            self.held(
                lambda numbers: same(numbers, other),
                lambda devices, numbers: [int(frame(devices, numbers) == frame(devices, other))])

    def test_every_answer_of_stays_comes_up(self):
        seen = {staying_told(devices, numbers)[0] for devices in WORKSHOPS for numbers in rows_to_try()}
        self.assertEqual(seen, {0, 1, 2, 3, 4})


if __name__ == "__main__":
    unittest.main()
