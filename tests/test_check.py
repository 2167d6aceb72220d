"""check: point 2 of the promises, as far as it speaks of check."""

import unittest

from helper import LARGEST, ask, ask_after, check, full, kinds

CELLAR = kinds((25, 2), (16, 2), (9, 2), (4, 2))
FULLEST = kinds((60, 6), (60, 6), (60, 6), (60, 6))


class Fills(unittest.TestCase):

    def test_room_left_then_casks(self):
        self.assertEqual(ask_after(CELLAR, check(70, [2, 1, 1, 0])), [[5, 4]])
        self.assertEqual(ask_after(CELLAR, check(70, [0, 2, 2, 2])), [[-6, 12]])
        self.assertEqual(ask_after(CELLAR, check(50, [0, 2, 2, 2])), [[8, 6]])

    def test_no_room_left(self):
        self.assertEqual(ask_after(CELLAR, check(70, [2, 1, 0, 1])), [[0, 4]])

    def test_all_that_there_are(self):
        self.assertEqual(ask_after(CELLAR, check(1, [2, 2, 2, 2])), [[107, 8]])

    def test_two_kinds_of_one_size(self):
        self.assertEqual(ask_after(kinds((9, 1), (9, 3)), check(30, [1, 3]), check(30, [3, 1])),
                         [[6, 4], [-1]])

    def test_order_1_by_the_smallest_and_the_largest(self):
        self.assertEqual(ask_after(kinds((1, 1), (60, 6)), check(1, [1, 0]), check(1, [0, 6])),
                         [[0, 1], [359, 6]])


class DoesNotFill(unittest.TestCase):

    def test_how_much_is_missing(self):
        self.assertEqual(ask_after(CELLAR, check(70, [1, 1, 1, 1]), check(70, [2, 1, 0, 0])),
                         [[-6, 16], [-6, 4]])

    def test_1_is_missing(self):
        self.assertEqual(ask_after(CELLAR, check(109, [2, 2, 2, 2]), check(108, [2, 2, 2, 2])),
                         [[-6, 1], [0, 8]])

    def test_a_plan_that_takes_none(self):
        self.assertEqual(ask_after(CELLAR, check(1, [0, 0, 0, 0])), [[-6, 1]])

    def test_order_1500(self):
        self.assertEqual(ask_after(FULLEST, check(1500, [6, 6, 6, 6]), check(1500, [0, 0, 0, 0])),
                         [[-6, 60], [-6, 1500]])

    def test_a_kind_of_no_casks(self):
        self.assertEqual(ask_after(kinds((5, 0)), check(3, [0])), [[-6, 3]])

    def test_no_kinds_and_a_plan_of_no_numbers(self):
        self.assertEqual(ask(check(1, []), check(1500, [])), [[-6, 1], [-6, 1500]])


class Refused(unittest.TestCase):

    def test_order_outside_1_to_1500(self):
        for order in (0, 1501, LARGEST):
            with self.subTest(order=order):
                self.assertEqual(ask_after(CELLAR, check(order, [1, 1, 1, 1])), [[-1]])
                self.assertEqual(ask(check(order, [])), [[-1]])

    def test_not_a_number_for_each_kind(self):
        for plan in ([], [2], [2, 2, 2], [2, 2, 2, 2, 0], [2, 2, 2, 2, 0, 0]):
            with self.subTest(plan=plan):
                self.assertEqual(ask_after(CELLAR, check(1, plan)), [[-1]])

    def test_a_number_without_a_kind(self):
        self.assertEqual(ask(check(1, [0]), check(1, [1]), check(1, [0] * 6)), [[-1], [-1], [-1]])

    def test_more_than_there_are(self):
        for plan in ([3, 0, 0, 0], [0, 3, 0, 0], [0, 0, 3, 0], [0, 0, 0, 3], [2, 2, 2, LARGEST]):
            with self.subTest(plan=plan):
                self.assertEqual(ask_after(CELLAR, check(1, plan)), [[-1]])

    def test_more_than_there_are_where_there_is_none(self):
        self.assertEqual(ask_after(kinds((5, 0), (5, 6)), check(1, [1, 1]), check(1, [0, 7]), check(30, [0, 6])),
                         [[-1], [-1], [0, 6]])

    def test_a_wrong_plan_that_does_not_fill_either(self):
        self.assertEqual(ask_after(CELLAR, check(1500, [3, 0, 0, 0]), check(1500, [1])), [[-1], [-1]])

    def test_a_wrong_order_that_is_not_filled_either(self):
        self.assertEqual(ask_after(CELLAR, check(1501, [0, 0, 0, 0])), [[-1]])

    def test_a_wrong_order_and_a_wrong_plan(self):
        self.assertEqual(ask_after(CELLAR, check(0, [3, 0, 0, 0]), check(LARGEST, [LARGEST] * 6)), [[-1], [-1]])

    def test_all_is_as_it_was(self):
        told = ask_after(CELLAR, check(0, [1, 1, 1, 1]), check(70, [7, 0, 0, 0]), check(70, [1]),
                         check(70, [0, 0, 0, 0]), check(70, [2, 1, 0, 1]), full(108))
        self.assertEqual(told, [[-1], [-1], [-1], [-6, 70], [0, 4], [0, 8, 1, 2, 2, 2, 2]])

    def test_a_plan_that_fills_takes_nothing_away(self):
        self.assertEqual(ask_after(CELLAR, check(108, [2, 2, 2, 2]), check(108, [2, 2, 2, 2])),
                         [[0, 8], [0, 8]])


if __name__ == "__main__":
    unittest.main()
