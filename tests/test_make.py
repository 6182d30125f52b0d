import unittest

from calling import BEGIN, ask, ask_last, device, make, row

DOUBLE, THREEFOLD, HALF = device(7, 8, 2, 1), device(-3, 50, 3, 1), device(0, 0, 1, 2)
UPSIDE, MIRROR, BOTH = device(1, 2, 1, 1, 1, 0), device(3, 4, 1, 1, 0, 1), device(5, 6, 1, 1, 1, 1)
FIT = (make(1, 5), make(9, 5), make(5, 1), make(5, 9), make(1, 1, 1, 0), make(1, 1, 0, 1), make(9, 9, 1, 1))
UNFIT = (
    make(0, 5), make(10, 5), make(20, 5), make(5, 0), make(5, 10), make(5, 20), make(0, 0), make(10, 10),
    make(1, 1, 2, 0), make(1, 1, 9, 0), make(1, 1, 0, 2), make(1, 1, 0, 9), make(20, 20, 9, 9),
)


def made_by(devices, *wanted):
    return ask_last(BEGIN, *devices, make(*wanted))


class HowMany(unittest.TestCase):
    def test_none(self):
        self.assertEqual(made_by([], 1, 1), [0])
        self.assertEqual(made_by([DOUBLE, HALF], 1, 1), [0])

    def test_none_although_others_would_do(self):
        self.assertEqual(made_by([device(4, 4, 1, 1), UPSIDE], 1, 1), [0])

    def test_one(self):
        self.assertEqual(made_by([DOUBLE, THREEFOLD], 2, 1), [1, 0])
        self.assertEqual(made_by([DOUBLE, THREEFOLD], 3, 1), [1, 1])

    def test_two(self):
        self.assertEqual(made_by([DOUBLE, THREEFOLD], 4, 1), [2, 0, 0])
        self.assertEqual(made_by([DOUBLE, THREEFOLD], 6, 1), [2, 0, 1])
        self.assertEqual(made_by([DOUBLE, THREEFOLD], 9, 1), [2, 1, 1])
        self.assertEqual(made_by([THREEFOLD, HALF], 3, 2), [2, 0, 1])

    def test_three(self):
        self.assertEqual(made_by([DOUBLE, THREEFOLD], 8, 1), [3, 0, 0, 0])
        self.assertEqual(made_by([HALF, THREEFOLD], 3, 4), [3, 0, 0, 1])
        self.assertEqual(made_by([device(0, 0, 2, 3), device(0, 0, 5, 1), device(0, 0, 1, 4)], 5, 6), [3, 0, 1, 2])

    def test_no_row_of_three_at_most(self):
        self.assertEqual(made_by([device(0, 0, 3, 2)], 9, 4), [2, 0, 0])
        self.assertEqual(made_by([device(0, 0, 4, 3), device(0, 0, 3, 2), device(0, 0, 1, 2)], 1, 8), [3, 2, 2, 2])
        # Four devices would make it: half as large twice, then threefold twice.
        self.assertEqual(made_by([THREEFOLD, HALF], 9, 4), [-6])
        self.assertEqual(made_by([DOUBLE], 3, 1), [-6])

    def test_in_a_workshop_without_devices(self):
        given = ask(BEGIN, make(1, 1), make(2, 1), make(1, 1, 1, 0), make(1, 1, 0, 1), make(0, 1))
        self.assertEqual(given, [[0], [0], [-6], [-6], [-6], [-1]])


class WhichOne(unittest.TestCase):
    def test_what_is_asked_for_need_not_be_in_lowest_terms(self):
        self.assertEqual(made_by([DOUBLE, THREEFOLD], 8, 4), [1, 0])
        self.assertEqual(made_by([DOUBLE, THREEFOLD], 9, 9), [0])
        self.assertEqual(made_by([THREEFOLD, HALF], 6, 4), [2, 0, 1])
        self.assertEqual(made_by([THREEFOLD, UPSIDE], 9, 3, 1), [2, 0, 1])

    def test_nor_need_the_devices(self):
        self.assertEqual(made_by([device(0, 0, 6, 8)], 3, 4), [1, 0])
        self.assertEqual(made_by([device(0, 0, 6, 8), device(9, 9, 8, 6)], 9, 9), [0])

    def test_the_fewest_devices_go_ahead_of_lower_numbers(self):
        self.assertEqual(made_by([DOUBLE, device(0, 0, 4, 1)], 4, 1), [1, 1])
        self.assertEqual(made_by([DOUBLE, device(0, 0, 4, 1)], 8, 1), [2, 0, 1])

    def test_the_first_of_as_short_ones(self):
        alike = [HALF, DOUBLE, device(9, 9, 6, 3), THREEFOLD, device(0, 0, 4, 1)]
        self.assertEqual(made_by(alike, 2, 1), [1, 1])
        self.assertEqual(made_by(alike, 6, 1), [2, 1, 3])
        self.assertEqual(made_by(alike, 8, 1), [2, 1, 4])
        self.assertEqual(made_by(alike, 9, 2), [3, 0, 3, 3])
        self.assertEqual(made_by([THREEFOLD, DOUBLE], 6, 1), [2, 0, 1])

    def test_the_order_and_the_pivots_do_not_matter(self):
        self.assertEqual(made_by([device(100, -100, 2, 1), device(-100, 100, 3, 1)], 6, 1), [2, 0, 1])

    def test_upside_down_and_mirrors_in_each_combination(self):
        turning = [DOUBLE, UPSIDE, MIRROR, BOTH]
        self.assertEqual(made_by(turning, 1, 1, 0, 0), [0])
        self.assertEqual(made_by(turning, 1, 1, 1, 0), [1, 1])
        self.assertEqual(made_by(turning, 1, 1, 0, 1), [1, 2])
        self.assertEqual(made_by(turning, 1, 1, 1, 1), [1, 3])
        self.assertEqual(made_by(turning, 2, 1, 0, 0), [1, 0])
        self.assertEqual(made_by(turning, 2, 1, 1, 0), [2, 0, 1])
        self.assertEqual(made_by(turning, 2, 1, 0, 1), [2, 0, 2])
        self.assertEqual(made_by(turning, 2, 1, 1, 1), [2, 0, 3])
        self.assertEqual(made_by(turning, 4, 1, 1, 1), [3, 0, 0, 3])

    def test_twice_upside_down_is_upright_and_twice_mirrored_is_not_mirrored(self):
        self.assertEqual(made_by([device(0, 0, 2, 1, 1, 0)], 4, 1, 0, 0), [2, 0, 0])
        self.assertEqual(made_by([device(0, 0, 2, 1, 1, 0)], 4, 1, 1, 0), [-6])
        self.assertEqual(made_by([device(0, 0, 2, 1, 1, 0)], 8, 1, 1, 0), [3, 0, 0, 0])
        self.assertEqual(made_by([device(0, 0, 2, 1, 0, 1)], 4, 1, 0, 0), [2, 0, 0])
        self.assertEqual(made_by([device(0, 0, 2, 1, 0, 1)], 4, 1, 0, 1), [-6])
        self.assertEqual(made_by([device(0, 0, 2, 1, 0, 1)], 8, 1, 0, 1), [3, 0, 0, 0])
        self.assertEqual(made_by([UPSIDE, MIRROR], 1, 1, 1, 1), [2, 0, 1])

    def test_only_what_is_asked_for(self):
        for kind in ((0, 0), (1, 0), (0, 1), (1, 1)):
            for wanted in ((0, 0), (1, 0), (0, 1), (1, 1)):
                with self.subTest(kind=kind, wanted=wanted):
                    self.assertEqual(
                        made_by([device(0, 0, 5, 1, *kind)], 5, 1, *wanted), [1, 0] if kind == wanted else [-6])


class Refusals(unittest.TestCase):
    def test_each_bound_from_within(self):
        for call in FIT:
            wanted = device(10, 10, *call[1:])
            with self.subTest(call=call):
                self.assertEqual(ask_last(BEGIN, wanted, call), [1, 0])

    def test_each_bound_from_beyond(self):
        for call in UNFIT:
            with self.subTest(call=call):
                self.assertEqual(ask(BEGIN, call, DOUBLE, UPSIDE, MIRROR, call), [[0], [-1], [0], [1], [2], [-1]])

    def test_six_devices_are_not_too_many(self):
        self.assertEqual(made_by([DOUBLE] * 5 + [THREEFOLD], 3, 1), [1, 5])
        self.assertEqual(made_by([DOUBLE] * 5 + [THREEFOLD], 9, 1), [2, 5, 5])

    def test_nothing_changes_behind_it(self):
        given = ask(BEGIN, DOUBLE, make(4, 1), make(0, 1), make(3, 1), row(0), row(1), THREEFOLD, make(3, 1))
        self.assertEqual(given[2:], [[2, 0, 0], [-1], [-6], [0, 2, 1, -7, 1, -8, 1], [-2], [1], [1, 1]])


if __name__ == "__main__":
    unittest.main()
