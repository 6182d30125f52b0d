import unittest

from calling import BEGIN, LOOK, apart, ask, ask_last, copy, device, far, make, orders, row, same, stays, undo

SIX = [
    device(10, 20, 3, 2), device(-4, 6, 1, 3, 1, 0), device(5, -8, 2, 1, 0, 1), device(-100, 100, 9, 7, 1, 1),
    device(0, 0, 1, 1), device(100, -100, 6, 8, 1, 0),
]
SIX_TOLD = [
    [10, 1, 20, 1, 3, 2, 0], [-4, 1, 6, 1, -1, 3, 0], [5, 1, -8, 1, 2, 1, 1], [-100, 1, 100, 1, -9, 7, 1],
    [0, 1, 0, 1, 1, 1, 0], [100, 1, -100, 1, -3, 4, 0],
]


class Look(unittest.TestCase):
    def test_no_devices(self):
        self.assertEqual(ask(BEGIN, LOOK), [[0], [0]])

    def test_one(self):
        for call, told in zip(SIX, SIX_TOLD, strict=True):
            with self.subTest(call=call):
                self.assertEqual(ask_last(BEGIN, call, LOOK), [1] + told)

    def test_some_and_six(self):
        for how_many in range(7):
            due = [how_many] + sum(SIX_TOLD[:how_many], [])
            with self.subTest(how_many=how_many):
                self.assertEqual(ask_last(BEGIN, *SIX[:how_many], LOOK), due)

    def test_sizes_come_in_lowest_terms(self):
        for a, b, due in ((6, 8, [3, 4]), (8, 6, [4, 3]), (9, 9, [1, 1]), (9, 3, [3, 1]), (2, 8, [1, 4])):
            with self.subTest(a=a, b=b):
                self.assertEqual(ask_last(BEGIN, device(0, 0, a, b), LOOK), [1, 0, 1, 0, 1] + due + [0])
                self.assertEqual(ask_last(BEGIN, device(0, 0, a, b, 1, 1), LOOK), [1, 0, 1, 0, 1, -due[0], due[1], 1])

    def test_a_pivot_that_does_not_matter_is_told_too(self):
        self.assertEqual(ask_last(BEGIN, device(-3, 8, 5, 5), LOOK), [1, -3, 1, 8, 1, 1, 1, 0])
        self.assertEqual(ask_last(BEGIN, device(-3, 8, 1, 1, 0, 1), LOOK), [1, -3, 1, 8, 1, 1, 1, 1])

    def test_devices_that_are_alike_are_told_each(self):
        self.assertEqual(ask_last(BEGIN, SIX[0], SIX[0], LOOK), [2] + SIX_TOLD[0] * 2)

    def test_begin_again_leaves_none(self):
        self.assertEqual(ask(BEGIN, *SIX, BEGIN, LOOK, SIX[1], LOOK)[-3:], [[0], [0], [1] + SIX_TOLD[1]])

    def test_nothing_changes_behind_it(self):
        given = ask(BEGIN, SIX[0], LOOK, LOOK, SIX[1], LOOK, row(0, 1), LOOK)
        self.assertEqual(given[2], given[3])
        self.assertEqual(given[4:6], [[1], [2] + SIX_TOLD[0] + SIX_TOLD[1]])
        self.assertEqual(given[6], ask_last(BEGIN, SIX[0], SIX[1], row(0, 1)))
        self.assertEqual(given[7], given[5])


class NothingChanges(unittest.TestCase):
    def unchanged_behind(self, *calls):
        due = [6] + sum(SIX_TOLD, [])
        for call in calls:
            with self.subTest(call=call):
                self.assertEqual(ask_last(BEGIN, *SIX, call, LOOK), due)

    def test_behind_calls_that_only_ask(self):
        self.unchanged_behind(
            row(0, 1, 2), copy(1, 2, [3]), stays(4), same([0], [1]), undo(5), undo(), apart([0, 1], [2, 3]),
            orders(0, 1, 2, 3, 4), make(1, 1), make(7, 5), far(1, 2, 3, 4, [0]), LOOK)

    def test_behind_refused_calls(self):
        self.unchanged_behind(
            device(0, 0, 1, 1), device(0, 0, 0, 1), row(6), copy(101, 0, []), copy(0, 0, [0] * 6), stays(9),
            same([], [6]), undo(6), apart([6], []), orders(0, 0, 0, 0, 0, 0), make(0, 1), make(1, 1, 2, 0),
            far(0, 0, 0, 101, []), far(0, 0, 0, 0, [7]))

    def test_behind_refused_calls_without_a_workshop(self):
        self.assertEqual(ask(SIX[0], make(1, 1), LOOK, BEGIN, LOOK), [[-9], [-9], [-9], [0], [0]])


if __name__ == "__main__":
    unittest.main()
