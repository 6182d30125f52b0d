import unittest

from calling import BEGIN, LOOK, apart, ask, copy, device, far, make, orders, row, same, stays, undo

EVERY_CALL_BUT_BEGIN = (
    device(0, 0, 1, 1), row(), copy(0, 0, []), stays(), same([], []), undo(), apart([], []), orders(),
    make(1, 1), far(0, 0, 0, 0, []), LOOK,
)
WRONG_CALLS = (
    device(101, -200, 0, 20, 9, 9), row(0), row(0, 1, 2, 3, 4, 5, 6, 7), copy(200, 0, []), copy(-101, 0, [9]),
    stays(9), same([0], []), same([], [0]), undo(0, 0, 0, 0, 0, 0), apart([], [5]), orders(8),
    make(0, 20, 9, 9), far(0, 0, 0, 101, []), far(0, 0, 0, 0, [3]),
)


class WithoutWorkshop(unittest.TestCase):
    def test_every_call_but_begin_is_refused(self):
        for call in EVERY_CALL_BUT_BEGIN:
            with self.subTest(call=call):
                self.assertEqual(ask(call), [[-9]])

    def test_it_comes_ahead_of_all_other_refusals(self):
        for call in WRONG_CALLS:
            with self.subTest(call=call):
                self.assertEqual(ask(call), [[-9]])

    def test_each_one_of_many_is_refused(self):
        calls = EVERY_CALL_BUT_BEGIN + WRONG_CALLS
        self.assertEqual(ask(*calls), [[-9]] * len(calls))

    def test_a_refused_device_is_not_kept(self):
        self.assertEqual(ask(device(1, 2, 3, 4), BEGIN, row(0), device(0, 0, 1, 1)), [[-9], [0], [-2], [0]])


class Begin(unittest.TestCase):
    def test_answers_0(self):
        self.assertEqual(ask(BEGIN), [[0]])

    def test_there_are_no_devices(self):
        self.assertEqual(ask(BEGIN, row(0), stays(0)), [[0], [-2], [-2]])

    def test_begin_again_leaves_no_device(self):
        self.assertEqual(
            ask(BEGIN, device(1, 2, 3, 4), device(5, 6, 7, 8), row(0), BEGIN, row(0), copy(0, 0, [1]), stays(0)),
            [[0], [0], [1], [0, 3, 4, 1, 4, 1, 2], [0], [-2], [-2], [-2]],
        )

    def test_begin_again_numbers_from_0_and_makes_room_for_six(self):
        six = [device(0, 0, 1, 1)] * 6
        numbered = [[number] for number in range(6)]
        self.assertEqual(
            ask(BEGIN, *six, device(0, 0, 1, 1), BEGIN, *six, device(0, 0, 1, 1)),
            [[0]] + numbered + [[-5], [0]] + numbered + [[-5]],
        )

    def test_begin_again_takes_the_new_devices(self):
        self.assertEqual(
            ask(BEGIN, device(0, 0, 2, 1), BEGIN, device(0, 0, 3, 1), row(0))[-1], [0, 3, 1, 0, 1, 0, 1])


if __name__ == "__main__":
    unittest.main()
