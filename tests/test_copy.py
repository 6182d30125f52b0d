import unittest

from calling import BEGIN, ask, ask_last, copy, device

THREE = [device(10, 20, 3, 2), device(-4, 6, 1, 3, 1, 0), device(5, -8, 2, 1, 0, 1)]


class Copy(unittest.TestCase):
    def test_by_rows_of_0_to_5_devices(self):
        expected = {
            (): [12, 1, 26, 1],
            (0,): [13, 1, 29, 1],
            (0, 1): [-29, 3, -5, 3],
            (0, 1, 2): [103, 3, 14, 3],
            (0, 1, 2, 0): [93, 2, -3, 1],
            (0, 1, 2, 0, 1): [-125, 6, 9, 1],
        }
        for devices, point in expected.items():
            with self.subTest(devices=devices):
                self.assertEqual(ask_last(BEGIN, *THREE, copy(12, 26, devices)), [0] + point)

    def test_the_pivot_stays(self):
        self.assertEqual(
            ask(BEGIN, *THREE, copy(10, 20, [0]), copy(-4, 6, [1]), copy(5, -8, [2]))[-3:],
            [[0, 10, 1, 20, 1], [0, -4, 1, 6, 1], [0, 5, 1, -8, 1]])

    def test_0_is_0_by_1(self):
        self.assertEqual(ask_last(BEGIN, device(0, 0, 1, 9), copy(0, 0, [0])), [0, 0, 1, 0, 1])

    def test_lowest_terms_and_signs(self):
        self.assertEqual(ask_last(BEGIN, device(0, 0, 2, 8, 1), copy(6, -3, [0])), [0, -3, 2, 3, 4])

    def test_the_bounds_from_within(self):
        for right, up in ((100, 0), (-100, 0), (0, 100), (0, -100), (100, -100), (-100, 100)):
            with self.subTest(right=right, up=up):
                self.assertEqual(ask_last(BEGIN, copy(right, up, [])), [0, right, 1, up, 1])

    def test_the_bounds_from_beyond(self):
        for right, up in ((101, 0), (-101, 0), (0, 101), (0, -101), (200, 0), (-200, 0), (0, 200), (0, -200)):
            with self.subTest(right=right, up=up):
                self.assertEqual(ask(BEGIN, *THREE, copy(right, up, []), copy(right, up, [0]))[-2:], [[-1], [-1]])

    def test_a_wrong_row_counts_ahead_of_a_wrong_number(self):
        for devices in ([3], [0] * 6):
            for right, up in ((101, 0), (0, -101), (200, 200)):
                with self.subTest(devices=devices, right=right, up=up):
                    self.assertEqual(ask_last(BEGIN, *THREE, copy(right, up, devices)), [-2])

    def test_a_copy_may_lie_beyond_the_bounds(self):
        self.assertEqual(ask_last(BEGIN, device(-100, 0, 9, 1), copy(100, 100, [0])), [0, 1700, 1, 900, 1])


if __name__ == "__main__":
    unittest.main()
