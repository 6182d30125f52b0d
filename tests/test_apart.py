import unittest

from calling import BEGIN, apart, ask, ask_last, copy, device, row

DOUBLE_AT_MIDDLE = device(0, 0, 2, 1)
NOT_APART = [0, 0, 1, 0, 1]


def apart_by_devices(one, other):
    return ask_last(BEGIN, one, other, apart([0], [1]))


class Apart(unittest.TestCase):
    def test_to_the_right(self):
        # The middle comes to -10 by the second device alone, and to -20 if the first follows.
        self.assertEqual(apart_by_devices(DOUBLE_AT_MIDDLE, device(5, 0, 3, 1)), [0, 10, 1, 0, 1])

    def test_up(self):
        self.assertEqual(apart_by_devices(DOUBLE_AT_MIDDLE, device(0, 5, 3, 1)), [0, 0, 1, 10, 1])

    def test_both(self):
        self.assertEqual(apart_by_devices(DOUBLE_AT_MIDDLE, device(5, 7, 3, 1)), [0, 10, 1, 14, 1])

    def test_to_the_left_and_down(self):
        self.assertEqual(apart_by_devices(device(5, 7, 3, 1), DOUBLE_AT_MIDDLE), [0, -10, 1, -14, 1])
        self.assertEqual(apart_by_devices(DOUBLE_AT_MIDDLE, device(-5, -7, 3, 1)), [0, -10, 1, -14, 1])
        self.assertEqual(apart_by_devices(DOUBLE_AT_MIDDLE, device(-5, 7, 3, 1)), [0, -10, 1, 14, 1])

    def test_fractions_in_lowest_terms(self):
        self.assertEqual(apart_by_devices(device(0, 0, 1, 2), device(1, 0, 1, 3)), [0, 1, 3, 0, 1])
        self.assertEqual(apart_by_devices(device(0, 0, 1, 4), device(2, -5, 2, 4)), [0, 3, 4, -15, 8])

    def test_upside_down(self):
        self.assertEqual(apart_by_devices(DOUBLE_AT_MIDDLE, device(5, 7, 3, 1, 1)), [0, -20, 1, -28, 1])
        self.assertEqual(apart_by_devices(device(0, 0, 2, 1, 1), device(5, 7, 3, 1)), [0, -30, 1, -42, 1])

    def test_mirrored(self):
        self.assertEqual(apart_by_devices(device(0, 0, 1, 1, 0, 1), device(5, 7, 1, 1, 1)), [0, 20, 1, 0, 1])
        self.assertEqual(apart_by_devices(device(0, 0, 1, 1, 1, 1), device(5, 7, 1, 1, 1)), [0, 0, 1, 28, 1])

    def test_not_at_all(self):
        self.assertEqual(apart_by_devices(device(5, 7, 2, 1), device(5, 7, 3, 1, 1, 1)), NOT_APART)
        self.assertEqual(apart_by_devices(device(5, 7, 2, 1), device(-9, 80, 6, 6)), NOT_APART)
        self.assertEqual(apart_by_devices(device(5, 0, 1, 1, 0, 1), device(5, 70, 1, 1, 0, 1)), NOT_APART)

    def test_rows_of_none(self):
        opening = [BEGIN, device(5, 7, 3, 1), DOUBLE_AT_MIDDLE]
        self.assertEqual(ask(BEGIN, apart([], []))[-1], NOT_APART)
        self.assertEqual(
            ask(*opening, apart([], [0]), apart([0, 1, 0], []), apart([], []))[-3:], [NOT_APART] * 3)

    def test_a_row_and_itself(self):
        self.assertEqual(
            ask(BEGIN, device(5, 7, 3, 1, 1, 1), DOUBLE_AT_MIDDLE, apart([0], [0]), apart([0, 1], [0, 1]))[-2:],
            [NOT_APART] * 2)

    def test_rows_of_several(self):
        opening = [BEGIN, DOUBLE_AT_MIDDLE, device(5, 0, 3, 1), device(0, 8, 1, 2, 1, 0), device(-3, 6, 5, 4, 0, 1)]
        rows = ([0, 1], [1, 0], [0, 1, 2], [3, 3, 1], [2], [3, 2, 1])
        for one in rows:
            for other in rows:
                if len(one) + len(other) <= 5:
                    given = ask(*opening, apart(one, other), row(*one, *other), row(*other, *one))
                    first, second = given[-2], given[-1]
                    with self.subTest(one=one, other=other):
                        self.assertEqual(given[-3][0], 0)
                        for place in (3, 5):
                            due = (first[place] * second[place + 1] - second[place] * first[place + 1],
                                   first[place + 1] * second[place + 1])
                            got = given[-3][place - 2:place]
                            self.assertEqual(got[0] * due[1], due[0] * got[1])

    def test_two_rows_of_five(self):
        self.assertEqual(
            ask_last(BEGIN, DOUBLE_AT_MIDDLE, device(1, 0, 2, 1), apart([0] * 5, [1] * 5)), [0, 961, 1, 0, 1])

    def test_it_is_the_same_for_all_points(self):
        opening = [BEGIN, device(4, -6, 3, 1, 1, 1), device(1, 2, 2, 1, 0, 1)]
        self.assertEqual(ask_last(*opening, apart([0], [1])), [0, 18, 1, -32, 1])
        for right, up in ((0, 0), (100, -100), (-37, 12)):
            given = ask(*opening, copy(right, up, [0, 1]), copy(right, up, [1, 0]))
            with self.subTest(right=right, up=up):
                self.assertEqual(
                    [one - other for one, other in zip(given[-2], given[-1])], [0, 18, 0, -32, 0])

    def test_a_wrong_row_is_refused(self):
        given = ask(BEGIN, DOUBLE_AT_MIDDLE, apart([1], [0]), apart([0], [1]), apart([0] * 6, []), apart([], [0] * 6))
        self.assertEqual(given[-4:], [[-2]] * 4)


if __name__ == "__main__":
    unittest.main()
