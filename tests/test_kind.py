"""begins and kind: point 1 of the promises."""

import unittest

from helper import BEGINS, LARGEST, ask, ask_after, check, full, kind, kinds

FOUR = kinds((25, 3), (16, 3), (9, 3), (4, 3))


class Kind(unittest.TestCase):

    def test_kinds_are_numbered_from_0(self):
        self.assertEqual(ask(*FOUR), [[0], [1], [2], [3]])

    def test_sizes_1_and_60_and_0_and_6_of_a_kind_are_taken(self):
        self.assertEqual(ask(*kinds((1, 0), (1, 6), (60, 0), (60, 6))), [[0], [1], [2], [3]])

    def test_two_kinds_of_one_size_are_two(self):
        self.assertEqual(ask(*kinds((9, 2), (9, 2))), [[0], [1]])

    def test_size_outside_1_to_60(self):
        for size in (0, 61, LARGEST):
            with self.subTest(size=size):
                self.assertEqual(ask(kind(size, 1)), [[-1]])

    def test_more_than_6_of_a_kind(self):
        for many in (7, LARGEST):
            with self.subTest(many=many):
                self.assertEqual(ask(kind(25, many)), [[-1]])

    def test_wrong_size_and_wrong_many(self):
        self.assertEqual(ask(kind(0, 7), kind(LARGEST, LARGEST)), [[-1], [-1]])

    def test_a_fifth(self):
        self.assertEqual(ask_after(FOUR, kind(1, 1)), [[-5]])

    def test_a_fifth_though_all_are_of_no_casks(self):
        self.assertEqual(ask_after(kinds((1, 0), (1, 0), (1, 0), (1, 0)), kind(1, 0)), [[-5]])

    def test_a_wrong_fifth_is_refused_for_what_is_told_first(self):
        for size, many in ((0, 1), (61, 1), (1, 7), (LARGEST, LARGEST)):
            with self.subTest(size=size, many=many):
                self.assertEqual(ask_after(FOUR, kind(size, many)), [[-1]])

    def test_after_refusals_the_kinds_are_as_they_were(self):
        told = ask(kind(25, 1), kind(0, 1), kind(5, 7), kind(61, 7), kind(16, 2),
                   check(41, [1, 1]), full(57))
        self.assertEqual(told, [[0], [-1], [-1], [-1], [1], [0, 2], [0, 3, 1, 1, 2]])

    def test_after_a_refused_fifth_the_four_are_as_they_were(self):
        told = ask_after(FOUR, kind(60, 6), kind(0, 6), check(54, [1, 1, 1, 1]), full(162), full(163))
        self.assertEqual(told, [[-5], [-1], [0, 4], [0, 12, 1, 3, 3, 3, 3], [-6]])


class Begins(unittest.TestCase):

    def test_answers_0(self):
        self.assertEqual(ask(BEGINS, BEGINS), [[0], [0]])

    def test_kinds_are_numbered_anew(self):
        self.assertEqual(ask_after(FOUR, BEGINS, *FOUR, kind(1, 1)),
                         [[0], [0], [1], [2], [3], [-5]])

    def test_no_kinds_are_left(self):
        told = ask_after(FOUR, check(4, [0, 0, 0, 1]), BEGINS, check(4, [0, 0, 0, 1]), check(4, []), full(4))
        self.assertEqual(told, [[0, 1], [0], [-1], [-6, 4], [-6]])

    def test_the_kinds_behind_it_are_the_only_ones(self):
        told = ask(kind(60, 6), BEGINS, kind(7, 2), check(14, [2]), full(14), full(15))
        self.assertEqual(told, [[0], [0], [0], [0, 2], [0, 2, 1, 2], [-6]])


if __name__ == "__main__":
    unittest.main()
