import contextlib
import io
import unittest

from calling import BEGIN, LOOK, apart, copy, device, far, make, orders, row, same, stays, undo
from copyrods.workshop import answers

# All twelve kinds of call, each answered and, where it can be, refused.
CALLS = (
    row() + LOOK + make(0, 1) + BEGIN + LOOK + device(10, 20, 3, 2) + device(0, 0, 1, 1, 1, 1) + device(0, 0, 0, 1)
    + row(0) + copy(12, 26, [0]) + copy(101, 0, [1, 0]) + stays() + stays(0) + stays(1) + same([0, 1], [1]) + row(2)
    + undo(1) + undo(0) + undo(2) + apart([0], [1]) + apart([], [2]) + orders(0, 1, 0) + orders(0, 2)
    + make(6, 4, 1, 1) + make(1, 1) + make(7, 1) + make(1, 1, 2, 0) + far(0, 0, 2, 4, [0, 1]) + far(0, 0, 0, 101, [])
    + far(0, 0, 0, 101, [2]) + LOOK + BEGIN + LOOK + undo() + orders()
)
ANSWERS = (
    [1, -9] + [1, -9] + [1, -9] + [1, 0] + [1, 0] + [1, 0] + [1, 1] + [1, -1]
    + [7, 0, 3, 2, -5, 1, -10, 1] + [5, 0, 13, 1, 29, 1] + [1, -1] + [1, 4] + [5, 1, 10, 1, 20, 1] + [3, 3, 0, 1]
    + [1, 0] + [1, -2]
    + [2, 1, 1] + [1, -6] + [1, -2] + [5, 0, 0, 1, 20, 1] + [1, -2] + [1, 3] + [1, -2]
    + [3, 2, 0, 1] + [1, 0] + [1, -6] + [1, -1] + [2, 45, 1] + [1, -1]
    + [1, -2] + [15, 2, 10, 1, 20, 1, 3, 2, 0, 0, 1, 0, 1, -1, 1, 1] + [1, 0] + [1, 0] + [1, 0] + [1, 1]
)


class Watched(list):
    """A list that can't be changed."""

    def refused(self, *args, **kwargs):
        raise AssertionError("the list that was handed in is changed")

    append = extend = insert = pop = remove = clear = sort = reverse = refused
    __setitem__ = __delitem__ = __iadd__ = __imul__ = refused


class Interface(unittest.TestCase):
    def test_several_calls_in_one_list(self):
        self.assertEqual(answers(CALLS), ANSWERS)

    def test_the_list_is_as_it_was(self):
        handed_in = list(CALLS)
        answers(handed_in)
        self.assertEqual(handed_in, CALLS)

    def test_the_list_is_not_changed_for_a_while_either(self):
        self.assertEqual(answers(Watched(CALLS)), ANSWERS)

    def test_the_same_is_answered_again(self):
        handed_in = list(CALLS)
        self.assertEqual([answers(handed_in) for time in range(3)], [ANSWERS] * 3)

    def test_nothing_is_kept_from_one_time_to_the_next(self):
        answers(BEGIN + device(1, 1, 2, 1))
        self.assertEqual(answers(row(0)), [1, -9])
        self.assertEqual(answers(BEGIN + row(0)), [1, 0, 1, -2])

    def test_what_is_given_back_is_not_kept(self):
        first = answers(CALLS)
        first.clear()
        self.assertEqual(answers(CALLS), ANSWERS)

    def test_plain_whole_numbers_in_a_plain_list(self):
        given = answers(CALLS)
        self.assertIs(type(given), list)
        self.assertEqual({type(number) for number in given}, {int})

    def test_nothing_is_printed(self):
        out, err = io.StringIO(), io.StringIO()
        with contextlib.redirect_stdout(out), contextlib.redirect_stderr(err):
            answers(CALLS)
        self.assertEqual(out.getvalue() + err.getvalue(), "")

    def test_sixty_calls(self):
        calls = BEGIN + device(-100, 100, 9, 7, 1, 1) + same([0] * 5, [0] * 5) * 58
        self.assertEqual(answers(calls), [1, 0, 1, 0] + [1, 1] * 58)

    def test_sixty_calls_of_much_work(self):
        six = [number for place in range(6) for number in device(place, 7 * place, 9, 8)]
        opened = [1, 0] + [number for place in range(6) for number in (1, place)]
        self.assertEqual(answers(BEGIN + six + undo(0, 1, 2, 3, 4) * 53), opened + [1, -6] * 53)
        self.assertEqual(answers(BEGIN + six + make(7, 1) * 53), opened + [1, -6] * 53)
        self.assertEqual(answers(BEGIN + six + orders(0, 1, 2, 3, 4) * 53), opened + [1, 120] * 53)
        self.assertEqual(answers(BEGIN + six + apart([0] * 5, [0] * 5) * 53), opened + [5, 0, 0, 1, 0, 1] * 53)

    def test_sixty_calls_of_the_most_numbers(self):
        calls = BEGIN + apart([0] * 8, [9] * 8) * 59
        self.assertEqual(answers(calls), [1, 0] + [1, -2] * 59)

    def test_rows_of_eight_numbers_are_read_whole(self):
        self.assertEqual(
            answers(BEGIN + same([9] * 8, [8] * 8) + copy(0, 0, [2] * 8) + stays(*[3] * 8) + BEGIN),
            [1, 0, 1, -2, 1, -2, 1, -2, 1, 0])
        self.assertEqual(
            answers(BEGIN + apart([9] * 8, [8] * 8) + far(0, 0, 0, 0, [2] * 8) + undo(*[3] * 8) + orders(*[0] * 8)
                    + row(*[1] * 8) + LOOK),
            [1, 0, 1, -2, 1, -2, 1, -2, 1, -2, 1, -2, 1, 0])


if __name__ == "__main__":
    unittest.main()
