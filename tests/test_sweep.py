"""Many rows, each held against what the devices do point by point."""

import itertools
import unittest
from fractions import Fraction

from calling import (
    BEGIN, LONGEST_FOUND_ROW, LONGEST_ROW, LOOK, apart, ask_after, copy, device, far, make, orders, row, same, stays,
    undo)

WORKSHOPS = (
    ((10, 20, 3, 2, 0, 0), (-4, 6, 2, 6, 1, 0), (5, -8, 2, 1, 0, 1),
     (-100, 100, 9, 7, 1, 1), (1, 0, 1, 1, 1, 1), (0, 3, 1, 1, 0, 1)),
    ((0, 0, 2, 1, 0, 0), (0, 0, 1, 2, 0, 0), (3, 0, 1, 1, 1, 0),
     (3, 0, 2, 1, 1, 1), (3, 5, 1, 2, 1, 1), (0, 5, 4, 4, 0, 1)),
)
POINTS = ((0, 0), (1, 0), (0, 1), (-100, 37), (100, -100))


def copied(numbers, point):
    right, up, a, b, upside, mirrors = numbers
    sideways, upward = point[0] - right, point[1] - up
    if mirrors:
        sideways = -sideways
    sideways, upward = sideways * Fraction(a, b), upward * Fraction(a, b)
    if upside:
        sideways, upward = -sideways, -upward
    return (right + sideways, up + upward)


def copied_by_row(devices, numbers, point):
    for number in numbers:
        point = copied(devices[number], point)
    return point


def told(*fractions):
    return [part for fraction in map(Fraction, fractions) for part in (fraction.numerator, fraction.denominator)]


def frame(devices, numbers):
    """Where the middle comes, and how far to the right and up from there one step comes."""
    middle = copied_by_row(devices, numbers, (0, 0))
    sideways = copied_by_row(devices, numbers, (1, 0))[0] - middle[0]
    upward = copied_by_row(devices, numbers, (0, 1))[1] - middle[1]
    return middle, sideways, upward


def row_told(devices, numbers):
    middle, sideways, upward = frame(devices, numbers)
    return [int(sideways != upward)] + told(upward, *middle)


def axis_staying(step, shift):
    """All places of an axis that stay: "all", or a list of them."""
    if step == 1:
        return "all" if shift == 0 else []
    return [shift / (1 - step)]


def staying_told(devices, numbers):
    middle, sideways, upward = frame(devices, numbers)
    rights, ups = axis_staying(sideways, middle[0]), axis_staying(upward, middle[1])
    if rights == [] or ups == []:
        return [0]
    if rights == "all":
        return [4] if ups == "all" else [3] + told(*ups)
    return [2] + told(*rights) if ups == "all" else [1] + told(*rights, *ups)


def rows_of(length):
    return list(itertools.product(range(6), repeat=length))


def short_rows():
    """All rows that undo and make may answer, the best ones first."""
    return [numbers for length in range(LONGEST_FOUND_ROW + 1) for numbers in rows_of(length)]


def found_told(numbers):
    return [-6] if numbers is None else [len(numbers)] + list(numbers)


def undo_told(devices, numbers):
    """The first short row that brings three corners back, for these tell where all points come."""
    corners = ((0, 0), (1, 0), (0, 1))
    copies = [copied_by_row(devices, numbers, corner) for corner in corners]
    for behind in short_rows():
        if [copied_by_row(devices, behind, point) for point in copies] == list(corners):
            return found_told(behind)
    return found_told(None)


def made_rows(devices):
    """The first short row of each size and mirroring."""
    made = {}
    for numbers in short_rows():
        middle, sideways, upward = frame(devices, numbers)
        made.setdefault((upward, sideways != upward), numbers)
    return made


def orders_told(devices, numbers):
    return [len({frame(devices, order) for order in itertools.permutations(numbers)})]


def apart_told(devices, numbers, other, point):
    one = copied_by_row(devices, numbers + other, point)
    two = copied_by_row(devices, other + numbers, point)
    return [0] + told(one[0] - two[0], one[1] - two[1])


def far_told(devices, numbers, point, other):
    one, two = copied_by_row(devices, numbers, point), copied_by_row(devices, numbers, other)
    return told((one[0] - two[0]) ** 2 + (one[1] - two[1]) ** 2)


def look_told(devices):
    given = [len(devices)]
    for right, up, a, b, upside, mirrors in devices:
        given += told(right, up, Fraction(-a if upside else a, b)) + [mirrors]
    return given


def rows_to_try():
    """All short rows, and some of the longer ones."""
    rows = [numbers for length in range(4) for numbers in rows_of(length)]
    for length in range(4, LONGEST_ROW + 1):
        rows += rows_of(length)[::37]
    return rows


def opening_of(devices):
    return [BEGIN] + [device(*numbers) for numbers in devices]


class Sweep(unittest.TestCase):
    def held(self, call_of, expected_of, every=1):
        for devices in WORKSHOPS:
            opening = opening_of(devices)
            rows = rows_to_try()[::every]
            given = ask_after(opening, [call_of(numbers) for numbers in rows])
            expected = [expected_of(devices, numbers) for numbers in rows]
            for numbers, got, due in zip(rows, given, expected, strict=True):
                self.assertEqual(got, due, f"row {numbers} of {devices}")

    def test_row(self):
        self.held(lambda numbers: row(*numbers), row_told)

    def test_stays(self):
        self.held(lambda numbers: stays(*numbers), staying_told)

    def test_copy(self):
        for point in POINTS:
            self.held(
                lambda numbers: copy(*point, numbers),
                lambda devices, numbers: [0] + told(*copied_by_row(devices, numbers, point)))

    def test_same(self):
        for other in ((), (0,), (0, 1), (3, 4), (2, 2)):
            self.held(
                lambda numbers: same(numbers, other),
                lambda devices, numbers: [int(frame(devices, numbers) == frame(devices, other))])

    def test_undo(self):
        self.held(lambda numbers: undo(*numbers), undo_told, every=3)

    def test_every_length_of_undo_comes_up(self):
        seen = {undo_told(WORKSHOPS[1], numbers)[0] for numbers in rows_to_try()[::3]}
        self.assertEqual(seen, {-6, 0, 1, 2, 3})

    def test_apart(self):
        for other, point in itertools.product(((), (0,), (0, 1), (3, 4, 5), (2, 4, 3, 0, 5)), POINTS[2:4]):
            self.held(
                lambda numbers: apart(numbers, other),
                lambda devices, numbers: apart_told(devices, numbers, other, point))

    def test_orders(self):
        self.held(lambda numbers: orders(*numbers), orders_told, every=5)

    def test_make(self):
        for devices in WORKSHOPS:
            made = made_rows(devices)
            asked = list(itertools.product(range(1, 10), range(1, 10), (0, 1), (0, 1)))
            given = ask_after(opening_of(devices), [make(*wanted) for wanted in asked])
            seen = set()
            for wanted, got in zip(asked, given, strict=True):
                a, b, upside, mirrors = wanted
                due = found_told(made.get((Fraction(-a if upside else a, b), mirrors == 1)))
                self.assertEqual(got, due, f"{wanted} of {devices}")
                seen.add(due[0])
            self.assertIn(-6, seen)
            self.assertGreaterEqual(seen, {0, 1, 2, 3})

    def test_far(self):
        for point, other in itertools.pairwise(POINTS):
            self.held(
                lambda numbers: far(*point, *other, numbers),
                lambda devices, numbers: far_told(devices, numbers, point, other))

    def test_look(self):
        for devices in WORKSHOPS:
            for how_many in range(7):
                some = devices[:how_many]
                self.assertEqual(ask_after(opening_of(some), [LOOK]), [look_told(some)])

    def test_every_answer_of_stays_comes_up(self):
        seen = {staying_told(devices, numbers)[0] for devices in WORKSHOPS for numbers in rows_to_try()}
        self.assertEqual(seen, {0, 1, 2, 3, 4})


if __name__ == "__main__":
    unittest.main()
