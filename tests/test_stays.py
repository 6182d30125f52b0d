import unittest

from calling import BEGIN, ask, ask_last, device, stays


def staying(*devices):
    """What stays by the row of all these devices, in their order."""
    return ask_last(BEGIN, *devices, stays(*range(len(devices))))


class Stays(unittest.TestCase):
    def test_all_by_a_row_of_none(self):
        self.assertEqual(ask(BEGIN, stays()), [[0], [4]])

    def test_all(self):
        self.assertEqual(staying(device(30, -40, 7, 7)), [4])
        self.assertEqual(staying(device(3, 4, 2, 1), device(3, 4, 1, 2)), [4])
        self.assertEqual(staying(device(3, 4, 2, 1, 1), device(3, 4, 1, 2, 1)), [4])
        self.assertEqual(staying(device(3, 4, 2, 1, 1, 1), device(3, 4, 1, 2, 1, 1)), [4])
        self.assertEqual(staying(device(3, 4, 1, 1, 0, 1), device(3, -9, 1, 1, 0, 1)), [4])

    def test_none_by_a_plain_shift(self):
        self.assertEqual(staying(device(0, 0, 2, 1), device(6, 0, 1, 2)), [0])
        self.assertEqual(staying(device(0, 0, 2, 1), device(0, 6, 1, 2)), [0])
        self.assertEqual(staying(device(0, 0, 1, 1, 1), device(1, 1, 1, 1, 1)), [0])
        self.assertEqual(staying(device(0, 0, 1, 1, 0, 1), device(1, 0, 1, 1, 0, 1)), [0])

    def test_none_by_mirroring_with_a_shift_up(self):
        self.assertEqual(staying(device(0, 0, 2, 1, 0, 1), device(0, 5, 1, 2)), [0])
        self.assertEqual(staying(device(0, 0, 2, 1, 0, 1), device(7, 5, 1, 2)), [0])

    def test_none_by_mirroring_upside_down_with_a_shift_to_the_right(self):
        self.assertEqual(staying(device(0, 0, 2, 1, 1, 1), device(5, 0, 1, 2)), [0])
        self.assertEqual(staying(device(0, 0, 1, 1, 1), device(5, 9, 1, 1, 0, 1)), [0])

    def test_one(self):
        self.assertEqual(staying(device(10, -20, 3, 2)), [1, 10, 1, -20, 1])
        self.assertEqual(staying(device(0, 0, 9, 8)), [1, 0, 1, 0, 1])

    def test_one_by_a_device_that_copies_upside_down(self):
        self.assertEqual(staying(device(10, -20, 3, 2, 1)), [1, 10, 1, -20, 1])
        self.assertEqual(staying(device(10, -20, 1, 1, 1)), [1, 10, 1, -20, 1])

    def test_one_by_a_device_that_mirrors(self):
        self.assertEqual(staying(device(10, -20, 3, 2, 0, 1)), [1, 10, 1, -20, 1])
        self.assertEqual(staying(device(10, -20, 3, 2, 1, 1)), [1, 10, 1, -20, 1])

    def test_one_by_several(self):
        self.assertEqual(staying(device(10, 20, 3, 2), device(-4, 6, 1, 3, 1)), [1, -22, 9, 68, 9])
        self.assertEqual(staying(device(6, 0, 2, 1), device(0, 6, 2, 1, 0, 1)), [1, 12, 5, 2, 1])

    def test_an_upright_line(self):
        self.assertEqual(staying(device(7, 50, 1, 1, 0, 1)), [2, 7, 1])
        self.assertEqual(staying(device(0, 50, 4, 4, 0, 1)), [2, 0, 1])
        self.assertEqual(staying(device(-1, 3, 3, 1), device(0, 3, 1, 3, 0, 1)), [2, -1, 3])
        self.assertEqual(staying(device(2, 0, 1, 1, 1), device(5, 0, 1, 1, 1, 1)), [2, 2, 1])

    def test_a_level_line(self):
        self.assertEqual(staying(device(7, 50, 1, 1, 1, 1)), [3, 50, 1])
        self.assertEqual(staying(device(7, 0, 4, 4, 1, 1)), [3, 0, 1])
        self.assertEqual(staying(device(3, -1, 3, 1), device(3, 0, 1, 3, 1, 1)), [3, -1, 3])
        self.assertEqual(staying(device(5, 9, 1, 1, 1), device(5, 0, 1, 1, 0, 1)), [3, 9, 1])


if __name__ == "__main__":
    unittest.main()
