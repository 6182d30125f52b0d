import unittest

from calling import BEGIN, ask, ask_last, device, far

THREE = [device(10, 20, 3, 2), device(-4, 6, 1, 3, 1, 0), device(5, -8, 2, 1, 0, 1)]


def far_by(places, *numbers):
    return ask_last(BEGIN, *THREE, far(*places, numbers))


class Far(unittest.TestCase):
    def test_by_a_row_of_none(self):
        self.assertEqual(ask(BEGIN, far(0, 0, 3, 4, [])), [[0], [25, 1]])
        self.assertEqual(far_by((1, 2, 2, 4)), [5, 1])

    def test_to_the_right_alone_and_up_alone(self):
        self.assertEqual(far_by((-3, 5, 4, 5)), [49, 1])
        self.assertEqual(far_by((5, -3, 5, 4)), [49, 1])

    def test_either_point_may_be_the_first(self):
        self.assertEqual(far_by((7, -2, -1, 5), 0, 2), far_by((-1, 5, 7, -2), 0, 2))
        self.assertEqual(far_by((7, -2, -1, 5), 0, 2), [1017, 1])

    def test_lowest_terms(self):
        self.assertEqual(far_by((0, 0, 3, 4), 0), [225, 4])
        self.assertEqual(far_by((0, 0, 4, 6), 0), [117, 1])
        self.assertEqual(far_by((0, 0, 1, 2), 1), [5, 9])
        self.assertEqual(far_by((0, 0, 3, 6), 1), [5, 1])
        self.assertEqual(far_by((0, 0, 1, 1), 0, 1), [1, 2])

    def test_upside_down_and_mirrored_are_as_far(self):
        self.assertEqual(far_by((0, 0, 3, 4), 1), [25, 9])
        self.assertEqual(far_by((0, 0, 3, 4), 2), [100, 1])
        self.assertEqual(far_by((0, 0, 3, 4), 1, 2), [100, 9])

    def test_the_same_point_twice(self):
        for numbers in ((), (0,), (1, 2), (2, 1, 0, 1, 2)):
            with self.subTest(numbers=numbers):
                self.assertEqual(far_by((7, -9, 7, -9), *numbers), [0, 1])

    def test_by_five_devices(self):
        self.assertEqual(far_by((0, 0, 3, 4), 0, 0, 0, 0, 0), [25 * 3 ** 10, 2 ** 10])
        self.assertEqual(
            ask_last(BEGIN, device(0, 0, 9, 1), far(-100, -100, 100, 100, [0] * 5)), [80000 * 9 ** 10, 1])

    def test_the_bounds_from_within(self):
        for place in range(4):
            for number in (100, -100):
                numbers = [0] * 4
                numbers[place] = number
                with self.subTest(numbers=numbers):
                    self.assertEqual(far_by(numbers), [10000, 1])
        self.assertEqual(far_by((100, 100, -100, -100)), [80000, 1])
        self.assertEqual(far_by((-100, 100, -100, 100)), [0, 1])

    def test_the_bounds_from_beyond(self):
        for place in range(4):
            for number in (101, -101, 200, -200):
                numbers = [0] * 4
                numbers[place] = number
                with self.subTest(numbers=numbers):
                    self.assertEqual(far_by(numbers), [-1])
                    self.assertEqual(far_by(numbers, 0), [-1])

    def test_a_wrong_row_counts_ahead_of_a_wrong_number(self):
        for place in range(4):
            numbers = [0] * 4
            numbers[place] = 101
            for wrong in ([3], [0, 9], [0] * 6):
                with self.subTest(numbers=numbers, wrong=wrong):
                    self.assertEqual(far_by(numbers, *wrong), [-2])
                    self.assertEqual(far_by([0] * 4, *wrong), [-2])


if __name__ == "__main__":
    unittest.main()
