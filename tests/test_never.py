"""never: point 2 of the promises, as far as it speaks of never."""

import unittest

from helper import (LARGEST, SOME_CELLARS, ask, ask_after, check, every_order, held_by_hand, kinds, never,
                    plans_by_hand)

CELLAR = kinds((25, 2), (16, 2), (9, 2), (4, 2))
FULLEST = kinds((60, 6), (60, 6), (60, 6), (60, 6))


def never_by_hand(pairs, most):
    """What never is to answer, by taking what each plan holds out of the whole numbers to so much."""
    numbers = set(range(1, most + 1)) - {held_by_hand(pairs, plan) for plan in plans_by_hand(pairs)}
    return [len(numbers), sorted(numbers)[-1] if numbers else 0]


class NeverHeld(unittest.TestCase):

    def test_some_are_held_and_some_are_not(self):
        # Held just are 3, 5, 8, 10 and 13.
        self.assertEqual(ask_after(kinds((5, 2), (3, 1)), never(13), never(12), never(10), never(5), never(3)),
                         [[8, 12], [8, 12], [6, 9], [3, 4], [2, 2]])

    def test_more_than_all_casks_hold_is_never_held(self):
        self.assertEqual(ask_after(kinds((5, 2), (3, 1)), never(14), never(20)), [[9, 14], [15, 20]])

    def test_what_a_kind_runs_out_for_is_not_held(self):
        self.assertEqual(ask_after(kinds((2, 1), (5, 2)), never(12)), [[7, 11]])

    def test_all_are_held(self):
        self.assertEqual(ask_after(kinds((1, 6)), never(6), never(7)), [[0, 0], [1, 7]])
        self.assertEqual(ask_after(kinds((1, 6), (7, 6), (49, 6), (60, 6)), never(702), never(703)), [[0, 0], [1, 703]])
        self.assertEqual(ask_after(kinds((1, 6), (1, 6), (1, 6), (1, 6)), never(24)), [[0, 0]])

    def test_none_is_held(self):
        self.assertEqual(ask_after(kinds((60, 6)), never(59), never(60), never(61)), [[59, 59], [59, 59], [60, 61]])

    def test_of_1(self):
        self.assertEqual(ask_after(kinds((1, 1)), never(1)), [[0, 0]])
        self.assertEqual(ask_after(kinds((2, 6)), never(1)), [[1, 1]])

    def test_of_1500(self):
        self.assertEqual(ask_after(CELLAR, never(1500)), [never_by_hand(((25, 2), (16, 2), (9, 2), (4, 2)), 1500)])
        self.assertEqual(ask_after(kinds((1, 6)), never(1500)), [[1494, 1500]])

    def test_the_most_casks_of_the_largest_size(self):
        self.assertEqual(ask_after(FULLEST, never(1500), never(1440), never(1439)),
                         [[1476, 1500], [1416, 1439], [1416, 1439]])

    def test_no_kinds(self):
        self.assertEqual(ask(never(1), never(1500)), [[1, 1], [1500, 1500]])

    def test_kinds_of_no_casks(self):
        self.assertEqual(ask_after(kinds((1, 0), (3, 2), (2, 0)), never(6), never(7)), [[4, 5], [5, 7]])
        self.assertEqual(ask_after(kinds((1, 0)), never(1)), [[1, 1]])

    def test_every_most_of_some_cellars(self):
        for pairs in SOME_CELLARS:
            mosts = every_order(pairs)
            for first in range(0, len(mosts), 6):
                some = mosts[first:first + 6]
                with self.subTest(pairs=pairs, mosts=some):
                    self.assertEqual(ask_after(kinds(*pairs), *[never(most) for most in some]),
                                     [never_by_hand(pairs, most) for most in some])


class Refused(unittest.TestCase):

    def test_outside_1_to_1500(self):
        for most in (0, 1501, LARGEST):
            with self.subTest(most=most):
                self.assertEqual(ask_after(CELLAR, never(most)), [[-1]])
                self.assertEqual(ask(never(most)), [[-1]])

    def test_all_is_as_it_was(self):
        told = ask_after(kinds((5, 2), (3, 1)), never(0), never(1501), never(LARGEST), never(13), check(13, [2, 1]),
                         never(13), *kinds((1, 1)))
        self.assertEqual(told, [[-1], [-1], [-1], [8, 12], [0, 3], [8, 12], [2]])


if __name__ == "__main__":
    unittest.main()
