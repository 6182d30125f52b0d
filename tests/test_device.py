import unittest

from calling import BEGIN, ask, ask_last, copy, device, row

FIT = (
    device(-100, 0, 1, 1), device(100, 0, 1, 1), device(0, -100, 1, 1), device(0, 100, 1, 1),
    device(0, 0, 1, 5), device(0, 0, 9, 5), device(0, 0, 5, 1), device(0, 0, 5, 9),
    device(0, 0, 1, 1, 0, 0), device(0, 0, 1, 1, 1, 0), device(0, 0, 1, 1, 0, 1), device(0, 0, 1, 1, 1, 1),
    device(-100, -100, 9, 9, 1, 1), device(100, 100, 1, 9, 1, 1),
)
UNFIT = (
    device(-101, 0, 1, 1), device(101, 0, 1, 1), device(-200, 0, 1, 1), device(200, 0, 1, 1),
    device(0, -101, 1, 1), device(0, 101, 1, 1), device(0, -200, 1, 1), device(0, 200, 1, 1),
    device(0, 0, 0, 1), device(0, 0, 10, 1), device(0, 0, 20, 1),
    device(0, 0, 1, 0), device(0, 0, 1, 10), device(0, 0, 1, 20),
    device(0, 0, 1, 1, 2, 0), device(0, 0, 1, 1, 9, 0), device(0, 0, 1, 1, 0, 2), device(0, 0, 1, 1, 0, 9),
    device(200, 200, 20, 20, 9, 9),
)
SIX = [device(number, 0, 2, 1) for number in range(6)]


class Device(unittest.TestCase):
    def test_they_are_numbered_from_0_on(self):
        self.assertEqual(ask(BEGIN, *SIX), [[0], [0], [1], [2], [3], [4], [5]])

    def test_each_bound_from_within(self):
        for call in FIT:
            with self.subTest(call=call):
                self.assertEqual(ask_last(BEGIN, call), [0])

    def test_each_bound_from_beyond(self):
        for call in UNFIT:
            with self.subTest(call=call):
                self.assertEqual(ask_last(BEGIN, call), [-1])

    def test_a_seventh_is_refused(self):
        self.assertEqual(ask(BEGIN, *SIX, *FIT)[7:], [[-5]] * len(FIT))

    def test_a_seventh_with_a_wrong_number(self):
        self.assertEqual(ask(BEGIN, *SIX, *UNFIT)[7:], [[-1]] * len(UNFIT))

    def test_a_refused_one_changes_nothing(self):
        given = ask(BEGIN, device(1, 0, 2, 1), *UNFIT, row(0), row(1), device(3, 0, 3, 1), row(0), row(1))
        self.assertEqual(
            given[-5:], [[0, 2, 1, -1, 1, 0, 1], [-2], [1], [0, 2, 1, -1, 1, 0, 1], [0, 3, 1, -6, 1, 0, 1]])

    def test_a_refused_seventh_changes_nothing(self):
        asked = [row(number) for number in range(7)]
        self.assertEqual(ask(BEGIN, *SIX, *asked)[7:], ask(BEGIN, *SIX, device(9, 9, 9, 9), *asked)[8:])
        self.assertEqual(ask_last(BEGIN, *SIX, device(9, 9, 9, 9), row(6)), [-2])

    def test_each_keeps_its_own_pivot_and_size(self):
        given = ask(BEGIN, device(10, 20, 3, 2), device(-7, 4, 2, 5), copy(12, 26, [0]), copy(3, -6, [1]))
        self.assertEqual(given[-2:], [[0, 13, 1, 29, 1], [0, -3, 1, 0, 1]])

    def test_plain_mirrored_upside_down_and_both(self):
        expected = {(0, 0): (13, 29), (0, 1): (7, 29), (1, 0): (7, 11), (1, 1): (13, 11)}
        for (upside, mirrors), (right, up) in expected.items():
            with self.subTest(upside=upside, mirrors=mirrors):
                given = ask_last(BEGIN, device(10, 20, 3, 2, upside, mirrors), copy(12, 26, [0]))
                self.assertEqual(given, [0, right, 1, up, 1])


if __name__ == "__main__":
    unittest.main()
