import unittest

from calling import (
    BEGIN, apart, ask, ask_last, copy, device, far, orders, row, same, stays, undo)

THREE = [device(10, 20, 3, 2), device(-4, 6, 1, 3, 1, 0), device(5, -8, 2, 1, 0, 1)]
NOTHING_DONE = [0, 1, 1, 0, 1, 0, 1]


def row_of(*devices):
    """What the row of all these devices, in their order, is told to do."""
    return ask_last(BEGIN, *devices, row(*range(len(devices))))


class Row(unittest.TestCase):
    def test_of_none(self):
        self.assertEqual(ask_last(BEGIN, row()), NOTHING_DONE)
        self.assertEqual(ask_last(BEGIN, *THREE, row()), NOTHING_DONE)

    def test_of_one(self):
        given = ask(BEGIN, *THREE, row(0), row(1), row(2))
        self.assertEqual(given[-3:], [[0, 3, 2, -5, 1, -10, 1], [0, -1, 3, -16, 3, 8, 1], [1, 2, 1, 15, 1, 8, 1]])

    def test_of_several(self):
        given = ask(BEGIN, *THREE, row(0, 1), row(1, 0), row(0, 1, 2))
        self.assertEqual(given[-3:], [
            [0, -1, 2, -11, 3, 34, 3],
            [0, -1, 2, -13, 1, 2, 1],
            [1, -1, 1, 67, 3, 92, 3],
        ])

    def test_the_same_device_twice(self):
        self.assertEqual(ask_last(BEGIN, *THREE, row(0, 0)), [0, 9, 4, -25, 2, -25, 1])

    def test_the_same_device_five_times(self):
        self.assertEqual(ask_last(BEGIN, device(0, 0, 9, 8, 1), row(0, 0, 0, 0, 0)), [0, -59049, 32768, 0, 1, 0, 1])

    def test_mirroring_twice_is_not_mirroring(self):
        self.assertEqual(ask_last(BEGIN, *THREE, row(2, 2)), [0, 4, 1, -15, 1, 24, 1])
        self.assertEqual(row_of(device(3, 0, 1, 1, 0, 1), device(3, 5, 1, 1, 0, 1)), NOTHING_DONE)
        self.assertEqual(ask_last(BEGIN, *THREE, row(2, 2, 2))[0], 1)

    def test_sizes_below_0(self):
        self.assertEqual(row_of(device(0, 0, 2, 3, 1)), [0, -2, 3, 0, 1, 0, 1])
        self.assertEqual(row_of(device(0, 0, 2, 3, 1, 1)), [1, -2, 3, 0, 1, 0, 1])
        self.assertEqual(row_of(device(0, 0, 2, 3, 1), device(0, 0, 2, 3, 1)), [0, 4, 9, 0, 1, 0, 1])

    def test_fractions_in_lowest_terms(self):
        self.assertEqual(row_of(device(0, 0, 6, 8)), [0, 3, 4, 0, 1, 0, 1])
        self.assertEqual(row_of(device(0, 0, 9, 3, 1)), [0, -3, 1, 0, 1, 0, 1])
        self.assertEqual(row_of(device(4, -6, 1, 8)), [0, 1, 8, 7, 2, -21, 4])
        self.assertEqual(row_of(device(50, 50, 9, 9)), NOTHING_DONE)
        self.assertEqual(row_of(device(0, 0, 2, 3), device(0, 0, 3, 2)), NOTHING_DONE)

    def test_a_shift_of_0_is_0_by_1(self):
        self.assertEqual(row_of(device(0, 7, 5, 9)), [0, 5, 9, 0, 1, 28, 9])
        self.assertEqual(row_of(device(7, 0, 5, 9, 1)), [0, -5, 9, 98, 9, 0, 1])

    def test_what_was_shifted_is_taken_along(self):
        self.assertEqual(row_of(device(6, 0, 1, 2), device(0, 0, 2, 1)), [0, 1, 1, 6, 1, 0, 1])
        self.assertEqual(row_of(device(0, 0, 2, 1), device(6, 0, 1, 2)), [0, 1, 1, 3, 1, 0, 1])


WRONG_ROWS = (
    [3], [9], [0, 3], [3, 0], [0, 1, 2, 0, 9], [0] * 6, [0, 1, 2, 0, 1, 2, 0], [0, 1, 2] * 2 + [0, 1],
    [9] * 6, [0, 0, 0, 0, 0, 3],
)


class WrongRows(unittest.TestCase):
    def each(self, *calls_of):
        for wrong in WRONG_ROWS:
            for call_of in calls_of:
                with self.subTest(call=call_of(wrong)):
                    self.assertEqual(ask_last(BEGIN, *THREE, call_of(wrong)), [-2])

    def test_where_one_row_is_handed_over(self):
        self.each(
            lambda wrong: row(*wrong), lambda wrong: copy(0, 0, wrong), lambda wrong: stays(*wrong),
            lambda wrong: undo(*wrong), lambda wrong: orders(*wrong), lambda wrong: far(0, 0, 0, 0, wrong))

    def test_the_first_of_two(self):
        self.each(lambda wrong: same(wrong, [0]), lambda wrong: apart(wrong, []))

    def test_the_second_of_two(self):
        self.each(lambda wrong: same([0], wrong), lambda wrong: apart([], wrong))

    def test_both_of_two(self):
        self.each(lambda wrong: same(wrong, wrong), lambda wrong: apart(wrong, wrong))

    def test_five_devices_are_not_too_many(self):
        given = ask(BEGIN, *THREE, row(0, 1, 2, 0, 1), stays(2, 2, 2, 2, 2), same([0] * 5, [0] * 5))
        self.assertNotIn([-2], given)

    def test_a_device_is_there_just_from_its_making_on(self):
        self.assertEqual(
            ask(BEGIN, row(0), device(0, 0, 1, 1), row(0), row(1), device(0, 0, 1, 1), row(1)),
            [[0], [-2], [0], NOTHING_DONE, [-2], [1], NOTHING_DONE])

    def test_a_refused_call_changes_nothing(self):
        self.assertEqual(
            ask(BEGIN, *THREE, row(3), copy(101, 0, []), row(0, 1))[-1], ask_last(BEGIN, *THREE, row(0, 1)))


if __name__ == "__main__":
    unittest.main()
