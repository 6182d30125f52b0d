import itertools
import unittest

from calling import BEGIN, ask, ask_last, device, row, same, undo

PAIR = [device(3, 4, 2, 1), device(3, 4, 1, 2)]


def undone_in(devices, *numbers):
    return ask_last(BEGIN, *devices, undo(*numbers))


class HowMany(unittest.TestCase):
    def test_by_none(self):
        self.assertEqual(undone_in(PAIR, 0, 1), [0])
        self.assertEqual(undone_in(PAIR, 1, 0, 0, 1), [0])
        self.assertEqual(undone_in([device(30, -40, 7, 7)], 0), [0])

    def test_by_one(self):
        self.assertEqual(undone_in(PAIR, 0), [1, 1])
        self.assertEqual(undone_in(PAIR, 1), [1, 0])
        self.assertEqual(undone_in(PAIR, 0, 0, 0, 1, 1), [1, 1])

    def test_by_two(self):
        self.assertEqual(undone_in(PAIR, 0, 0), [2, 1, 1])
        self.assertEqual(undone_in([device(3, 4, 6, 1), device(3, 4, 1, 3), device(3, 4, 1, 2)], 0), [2, 1, 2])

    def test_by_three(self):
        self.assertEqual(undone_in(PAIR, 1, 1, 1), [3, 0, 0, 0])
        self.assertEqual(
            undone_in([device(3, 4, 8, 1, 1, 1), device(3, 4, 1, 2, 1), device(3, 4, 1, 2, 1, 1)], 0), [3, 1, 1, 2])

    def test_by_none_that_has_three_at_most(self):
        self.assertEqual(undone_in(PAIR, 0, 0, 0, 0), [-6])
        self.assertEqual(undone_in(PAIR, 1, 1, 1, 1, 1), [-6])

    def test_by_none_at_all(self):
        self.assertEqual(undone_in([device(3, 4, 2, 1)], 0), [-6])
        self.assertEqual(undone_in([device(3, 4, 2, 1), device(4, 4, 1, 2)], 0), [-6])
        self.assertEqual(undone_in([device(3, 4, 2, 1), device(3, 5, 1, 2)], 0), [-6])
        self.assertEqual(undone_in([device(3, 4, 2, 1), device(3, 4, 1, 2, 0, 1)], 0, 0, 0), [-6])
        self.assertEqual(undone_in([device(3, 4, 2, 1), device(3, 4, 1, 2, 1, 0)], 0, 0, 0), [-6])

    def test_a_row_of_none(self):
        self.assertEqual(undone_in([]), [0])
        self.assertEqual(undone_in(PAIR), [0])

    def test_in_a_workshop_without_devices(self):
        self.assertEqual(ask(BEGIN, undo(), undo(0)), [[0], [0], [-2]])


class WhichOne(unittest.TestCase):
    def test_none_although_others_would_do(self):
        still = [device(0, 0, 5, 5)] + PAIR
        self.assertEqual(undone_in(still), [0])
        self.assertEqual(undone_in(still, 0), [0])
        self.assertEqual(undone_in(still, 1, 2), [0])

    def test_the_fewest_devices_go_ahead_of_lower_numbers(self):
        self.assertEqual(undone_in([device(3, 4, 1, 2), device(3, 4, 4, 1), device(3, 4, 1, 4)], 1), [1, 2])
        self.assertEqual(
            undone_in([device(3, 4, 1, 2), device(3, 4, 8, 1), device(3, 4, 2, 8)], 1), [2, 0, 2])

    def test_the_first_of_as_short_ones(self):
        alike = [device(3, 4, 1, 2), device(3, 4, 2, 4), device(3, 4, 2, 1), device(3, 4, 6, 3)]
        self.assertEqual(undone_in(alike, 3), [1, 0])
        self.assertEqual(undone_in(alike, 1), [1, 2])
        self.assertEqual(undone_in(alike, 3, 2), [2, 0, 0])
        self.assertEqual(undone_in(alike, 1, 1, 0), [3, 2, 2, 2])

    def test_the_first_number_counts_most(self):
        shared = [device(0, 0, 6, 1), device(0, 0, 1, 3), device(0, 0, 1, 2)]
        self.assertEqual(undone_in(shared, 0), [2, 1, 2])
        shared = [device(0, 0, 8, 1), device(0, 0, 1, 4), device(0, 0, 2, 1), device(0, 0, 1, 2)]
        self.assertEqual(undone_in(shared, 0), [2, 1, 3])
        self.assertEqual(undone_in(shared, 3, 3, 3), [1, 0])

    def test_the_order_of_what_undoes_counts(self):
        crossed = [device(0, 0, 2, 1), device(6, 0, 3, 1), device(6, 0, 1, 3), device(0, 0, 1, 2)]
        self.assertEqual(undone_in(crossed, 0, 1), [2, 2, 3])
        self.assertEqual(undone_in(crossed, 1, 0), [2, 3, 2])

    def test_mirrored_and_upside_down(self):
        self.assertEqual(undone_in([device(-7, 9, 3, 2, 1, 1), device(-7, 9, 2, 3, 1, 1)], 0), [1, 1])
        self.assertEqual(undone_in([device(-7, 9, 1, 1, 0, 1)], 0), [1, 0])
        self.assertEqual(undone_in([device(-7, 9, 1, 1, 1, 0)], 0, 0, 0), [1, 0])

    def test_pivots_that_do_and_do_not_matter(self):
        turned, mirrored = device(-7, 9, 2, 1, 1, 0), device(-7, 9, 1, 2, 0, 1)
        self.assertEqual(undone_in([turned, mirrored, device(-7, 9, 1, 1, 1, 1)], 0), [2, 1, 2])
        self.assertEqual(undone_in([turned, mirrored, device(60, 9, 1, 1, 1, 1)], 0), [2, 1, 2])
        self.assertEqual(undone_in([turned, mirrored, device(-7, 10, 1, 1, 1, 1)], 0), [3, 0, 1, 1])


class WhatIsFound(unittest.TestCase):
    def test_behind_the_row_nothing_is_done(self):
        devices = [device(3, 4, 2, 1), device(-5, 0, 1, 2), device(3, 4, 1, 2), device(-5, 0, 2, 1)]
        for numbers in itertools.product(range(4), repeat=2):
            undone = undone_in(devices, *numbers)
            with self.subTest(numbers=numbers, undone=undone):
                self.assertLessEqual(undone[0], 2)
                self.assertEqual(len(undone), undone[0] + 1)
                self.assertEqual(ask_last(BEGIN, *devices, row(*numbers, *undone[1:])), [0, 1, 1, 0, 1, 0, 1])

    def test_nothing_changes_behind_it(self):
        given = ask(BEGIN, *PAIR, undo(0), undo(0), same([0, 1], []), undo(2), device(0, 0, 1, 1))
        self.assertEqual(given[3:], [[1, 1], [1, 1], [1], [-2], [2]])

    def test_a_new_device_may_do_what_none_did(self):
        given = ask(BEGIN, device(0, 0, 3, 2), undo(0), device(0, 0, 2, 3), undo(0), BEGIN, undo(0), undo())
        self.assertEqual(given, [[0], [0], [-6], [1], [1, 1], [0], [-2], [0]])


if __name__ == "__main__":
    unittest.main()
