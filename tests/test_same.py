import unittest

from calling import BEGIN, ask, ask_last, device, same

ALIKE = [
    device(10, 20, 2, 1), device(10, 20, 3, 1), device(10, 20, 6, 1),
    device(10, 20, 4, 2), device(10, 20, 1, 1, 1, 1), device(-10, 7, 9, 9),
]


def same_devices(one, other):
    return ask_last(BEGIN, one, other, same([0], [1]))


class Same(unittest.TestCase):
    def each(self, expected, *pairs):
        for one, other in pairs:
            with self.subTest(one=one, other=other):
                self.assertEqual(ask(BEGIN, *ALIKE, same(one, other), same(other, one))[-2:], [[expected]] * 2)

    def test_a_row_and_itself(self):
        self.each(1, ([], []), ([0], [0]), ([4, 1, 0], [4, 1, 0]))

    def test_by_different_devices(self):
        self.each(1, ([0, 1], [2]), ([0], [3]), ([1, 0], [0, 1]), ([0, 3, 1], [2, 0]), ([4, 4], []), ([5], []))

    def test_not_the_same(self):
        self.each(0, ([0], [1]), ([0], []), ([4], []), ([0, 1], [0]), ([4, 0], [0]), ([0, 0], [0]))

    def test_each_of_what_a_row_does_counts(self):
        plain = device(10, 20, 3, 2)
        self.assertEqual(same_devices(plain, device(10, 20, 3, 2)), [1])
        self.assertEqual(same_devices(plain, device(10, 20, 6, 4)), [1])
        self.assertEqual(same_devices(plain, device(10, 20, 3, 2, 0, 1)), [0])
        self.assertEqual(same_devices(plain, device(10, 20, 3, 2, 1, 0)), [0])
        self.assertEqual(same_devices(plain, device(10, 20, 2, 3)), [0])
        self.assertEqual(same_devices(plain, device(11, 20, 3, 2)), [0])
        self.assertEqual(same_devices(plain, device(10, 21, 3, 2)), [0])

    def test_mirroring_alone_counts(self):
        self.assertEqual(same_devices(device(0, 0, 2, 1), device(0, 0, 2, 1, 0, 1)), [0])

    def test_the_pivot_does_not_matter_where_it_does_nothing(self):
        self.assertEqual(same_devices(device(-3, 8, 1, 1), device(70, 70, 5, 5)), [1])
        self.assertEqual(same_devices(device(-3, 8, 1, 1, 0, 1), device(-3, 70, 1, 1, 0, 1)), [1])
        self.assertEqual(same_devices(device(-3, 8, 1, 1, 0, 1), device(-2, 8, 1, 1, 0, 1)), [0])

    def test_the_order_counts(self):
        self.assertEqual(
            ask_last(BEGIN, device(0, 0, 2, 1), device(5, 0, 3, 1), same([0, 1], [1, 0])), [0])


if __name__ == "__main__":
    unittest.main()
