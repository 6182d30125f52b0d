import unittest

from calling import BEGIN, ask, ask_last, device, orders, row

# No two orders of different ones among these five do the same.
FIVE = [
    device(0, 0, 2, 1), device(1, 0, 3, 1), device(10, 0, 5, 1), device(0, 1, 7, 1), device(100, 1, 2, 3),
]


def orders_of(*devices):
    """How many orders of all these devices are unlike."""
    return ask_last(BEGIN, *devices, orders(*range(len(devices))))


class Orders(unittest.TestCase):
    def test_of_none(self):
        self.assertEqual(ask(BEGIN, orders()), [[0], [1]])
        self.assertEqual(ask_last(BEGIN, *FIVE, orders()), [1])

    def test_of_one(self):
        self.assertEqual(ask_last(BEGIN, *FIVE, orders(3)), [1])

    def test_all_orders_unlike(self):
        self.assertEqual(orders_of(*FIVE[:2]), [2])
        self.assertEqual(orders_of(*FIVE[:3]), [6])
        self.assertEqual(orders_of(*FIVE[:4]), [24])
        self.assertEqual(orders_of(*FIVE), [120])

    def test_the_order_that_is_handed_over_does_not_matter(self):
        given = ask(BEGIN, *FIVE, orders(0, 1, 2), orders(2, 1, 0), orders(1, 0, 2), orders(4, 3, 2, 1, 0))
        self.assertEqual(given[-4:], [[6], [6], [6], [120]])

    def test_the_same_device_several_times(self):
        given = ask(
            BEGIN, *FIVE, orders(0, 0), orders(0, 0, 0, 0, 0), orders(0, 1, 0), orders(0, 0, 1, 1),
            orders(0, 1, 0, 1, 0), orders(0, 1, 2, 0), orders(0, 1, 2, 3, 0))
        self.assertEqual(given[-7:], [[1], [1], [3], [6], [10], [12], [60]])

    def test_different_orders_that_do_the_same_are_one(self):
        self.assertEqual(orders_of(device(4, 5, 2, 1), device(4, 5, 3, 1, 1), device(4, 5, 7, 2, 1, 1)), [1])
        self.assertEqual(orders_of(device(0, 0, 2, 1), device(1, 0, 3, 1), device(-50, 20, 1, 1)), [2])
        self.assertEqual(orders_of(device(0, 0, 2, 1), device(0, 0, 1, 2), device(3, 4, 2, 1)), [3])

    def test_plain_shifts_in_any_order_are_one(self):
        turned = [device(0, 0, 1, 1, 1), device(3, 0, 1, 1, 1), device(0, 5, 1, 1, 1), device(3, 5, 1, 1, 1)]
        self.assertEqual(ask_last(BEGIN, *turned, row(0, 1, 3, 2)), ask_last(BEGIN, *turned, row()))
        # Two of the four turn back what the other two have turned: which two, tells what is done.
        self.assertEqual(orders_of(*turned), [5])
        self.assertEqual(orders_of(*turned[:3]), [3])

    def test_each_of_the_shifts_counts(self):
        self.assertEqual(orders_of(device(0, 0, 2, 1), device(5, 0, 2, 1)), [2])
        self.assertEqual(orders_of(device(0, 0, 2, 1), device(0, 5, 2, 1)), [2])
        self.assertEqual(orders_of(device(0, 0, 1, 1, 0, 1), device(5, 0, 1, 1, 0, 1)), [2])
        self.assertEqual(orders_of(device(0, 0, 1, 1, 0, 1), device(0, 5, 1, 1, 0, 1)), [1])

    def test_devices_that_are_alike_under_different_numbers(self):
        self.assertEqual(orders_of(device(0, 0, 2, 1), device(0, 0, 4, 2)), [1])
        self.assertEqual(orders_of(device(0, 0, 2, 1), device(1, 0, 3, 1), device(0, 0, 6, 3)), [3])
        self.assertEqual(orders_of(device(0, 0, 2, 1), device(1, 0, 3, 1), device(0, 0, 6, 3), device(1, 0, 9, 3)), [6])

    def test_a_wrong_row_is_refused(self):
        self.assertEqual(ask(BEGIN, orders(0)), [[0], [-2]])
        self.assertEqual(ask(BEGIN, *FIVE, orders(5), orders(0, 1, 2, 3, 4, 0))[-2:], [[-2], [-2]])

    def test_nothing_changes_behind_it(self):
        given = ask(BEGIN, *FIVE, row(2, 0, 1), orders(2, 0, 1), row(2, 0, 1), orders(2, 0, 1))
        self.assertEqual(given[-2:], given[-4:-2])


if __name__ == "__main__":
    unittest.main()
