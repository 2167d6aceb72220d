"""The interface: how calls are read, how answers are told, and that nothing is kept or changed."""

import contextlib
import io
import unittest

from caskorders import cellar
from caskorders.cellar import answers
from helper import BEGINS, LARGEST, ask, check, fewest, full, kind, kinds, line, never, plain


class Untouched(list):
    """A list that fails when it is changed, if only for a while."""

    def refuse(self, *values, **named):
        raise AssertionError("the list handed in was changed")

    append = extend = insert = pop = remove = clear = sort = reverse = refuse
    __setitem__ = __delitem__ = __iadd__ = __imul__ = refuse


EACH_CALL = line(kind(25, 2), kind(16, 2), kind(0, 1), check(41, [1, 1]), check(50, [1, 1]), check(1, [3, 0]),
                 full(40), fewest(17), full(83), fewest(83), never(33), plain(60), plain(0),
                 BEGINS, plain(9), kind(4, 1), full(3), plain(9))
EACH_ANSWER = [1, 0, 1, 1, 1, -1, 2, 0, 2, 2, -6, 9, 1, -1,
               5, 1, 2, 1, 1, 1, 5, 1, 8, 1, 1, 0, 1, -6, 1, -6, 2, 30, 33, 4, 10, 2, 2, 0, 1, -1,
               1, 0, 2, 9, 0, 1, 0, 4, 1, 1, 1, 1, 3, 5, 1, 1]


class Form(unittest.TestCase):

    def test_the_numbers_as_they_stand(self):
        self.assertEqual(answers([0, 0, 0]), [1, 0])
        self.assertEqual(answers([1, 2, 25, 2, 0]), [1, 0])
        self.assertEqual(answers([2, 1, 7, 0]), [2, -6, 7])
        self.assertEqual(answers([1, 2, 25, 2, 0, 2, 2, 45, 2, 0]), [1, 0, 2, 5, 2])
        self.assertEqual(answers([1, 2, 25, 2, 0, 3, 1, 45, 0]), [1, 0, 4, 5, 2, 1, 2])
        self.assertEqual(answers([3, 1, 45, 0]), [1, -6])
        self.assertEqual(answers([1, 2, 25, 2, 0, 4, 1, 45, 0]), [1, 0, 4, 2, 5, 1, 2])
        self.assertEqual(answers([4, 1, 45, 0]), [1, -6])
        self.assertEqual(answers([1, 2, 25, 2, 0, 5, 1, 45, 0]), [1, 0, 2, 44, 45])
        self.assertEqual(answers([5, 1, 1501, 0]), [1, -1])
        self.assertEqual(answers([1, 2, 25, 2, 0, 6, 1, 45, 0]), [1, 0, 3, 20, 1, 1])
        self.assertEqual(answers([6, 1, 1501, 0]), [1, -1])

    def test_several_calls_behind_one_another(self):
        self.assertEqual(answers(EACH_CALL), EACH_ANSWER)

    def test_a_plan_of_none_to_6_numbers_ends_with_its_call(self):
        for length in range(7):
            with self.subTest(length=length):
                self.assertEqual(ask(check(1, [0] * length), kind(5, 1), check(1, [1])),
                                 [[-1] if length else [-6, 1], [0], [4, 1]])

    def test_how_long_answers_with_a_plan_are(self):
        for many in range(1, 5):
            with self.subTest(kinds=many):
                told = answers(line(*[kind(5, 1)] * many, full(5), fewest(5), plain(5)))
                self.assertEqual(told[2 * many:], [3 + many, 0, 1, many] + [0] * (many - 1) + [1]
                                 + [3 + many, 1, 0, many] + [0] * (many - 1) + [1]
                                 + [2 + many, 0, 1, 1] + [0] * (many - 1))

    def test_plain_of_no_kinds_and_never_have_2_numbers(self):
        self.assertEqual(answers(line(plain(7), never(7), *kinds((5, 1), (5, 1)), never(7))),
                         [2, 7, 0, 2, 7, 7, 1, 0, 1, 1, 2, 6, 7])

    def test_60_calls(self):
        calls = [BEGINS] + [kind(60, 6)] * 4 + [check(1440, [6] * 4)] * 49 + [full(1440)] * 6
        self.assertEqual(ask(*calls), [[0], [0], [1], [2], [3]] + [[0, 24]] * 49 + [[0, 24, 1, 6, 6, 6, 6]] * 6)

    def test_60_calls_of_all_seven_kinds_with_begins_in_the_middle(self):
        before = [kind(25, 2), kind(16, 2), kind(9, 2), kind(4, 2), fewest(18), full(18), never(9), kind(1, 1),
                  check(18, [0, 0, 2, 0]), plain(18)]
        told_before = [[0], [1], [2], [3], [1, 7, 1, 1, 0, 0, 0], [0, 2, 1, 0, 0, 2, 0], [6, 7], [-5],
                       [0, 2], [2, 1, 0, 1, 0, 0]]
        behind = [BEGINS, plain(18), kind(9, 1), kind(5, 3), never(9), full(11), fewest(11), check(18, [0, 0, 2, 0]),
                  check(18, [1, 1]), plain(18)]
        told_behind = [[0], [18, 0], [0], [1], [7, 8], [3, 2, 1, 1, 1], [2, 3, 1, 1, 1], [-1],
                       [-6, 4], [4, 2, 1, 1]]
        many = [plain(24), check(24, [1, 3]), plain(LARGEST), check(25, [1, 3])] * 10
        told_many = [[0, 4, 1, 3], [0, 4], [-1], [-6, 1]] * 10
        calls = before + behind + many
        self.assertEqual((len(calls), {call[0] for call in calls}), (60, set(range(7))))
        self.assertEqual(ask(*calls), told_before + told_behind + told_many)

    def test_60_calls_of_the_largest_cellar(self):
        calls = [full(720), fewest(720), never(1500)] * 2 + [plain(1500)] * 50
        self.assertEqual(ask(*kinds((60, 6), (60, 6), (60, 6), (60, 6)), *calls), [[0], [1], [2], [3]]
                         + [[0, 12, 231, 0, 0, 6, 6], [12, 0, 231, 0, 0, 6, 6], [1476, 1500]] * 2
                         + [[60, 24, 6, 6, 6, 6]] * 50)

    def test_each_call_alone(self):
        calls = [BEGINS, kind(60, 6), check(1, []), full(1), fewest(1), never(1), plain(1)]
        self.assertEqual([ask(call) for call in calls],
                         [[[0]], [[0]], [[-6, 1]], [[-6]], [[-6]], [[1, 1]], [[1, 0]]])

    def test_the_largest_number_everywhere(self):
        told = ask(kind(LARGEST, LARGEST), kind(1, LARGEST), kind(LARGEST, 1), full(LARGEST), fewest(LARGEST),
                   never(LARGEST), plain(LARGEST), check(LARGEST, [LARGEST] * 6), check(LARGEST, []), check(1, []))
        self.assertEqual(told, [[-1]] * 9 + [[-6, 1]])

    def test_a_list_of_whole_numbers_is_given_back(self):
        told = answers(EACH_CALL)
        self.assertIs(type(told), list)
        self.assertEqual({type(number) for number in told}, {int})

    def test_the_function_is_written_in_its_file(self):
        self.assertEqual(answers.__module__, "caskorders.cellar")
        self.assertEqual(answers.__code__.co_varnames[:answers.__code__.co_argcount], ("calls",))
        self.assertIs(cellar.answers, answers)


class NothingIsChangedOrKept(unittest.TestCase):

    def test_the_list_handed_in_is_as_it_was(self):
        calls = list(EACH_CALL)
        answers(calls)
        self.assertEqual(calls, EACH_CALL)

    def test_the_list_handed_in_is_not_changed_for_a_while_either(self):
        self.assertEqual(answers(Untouched(EACH_CALL)), EACH_ANSWER)

    def test_a_second_time_answers_as_the_first(self):
        calls = list(EACH_CALL)
        first = answers(calls)
        first.clear()
        self.assertEqual(answers(calls), EACH_ANSWER)

    def test_a_cellar_begins_with_no_kinds_each_time(self):
        four = line(*[kind(9, 1)] * 4)
        for time in range(3):
            with self.subTest(time=time):
                self.assertEqual(answers(four), [1, 0, 1, 1, 1, 2, 1, 3])
                self.assertEqual(answers(full(9)), [1, -6])
                self.assertEqual(answers(check(9, [])), [2, -6, 9])
                self.assertEqual(answers(fewest(9)), [1, -6])
                self.assertEqual(answers(never(9)), [2, 9, 9])
                self.assertEqual(answers(plain(9)), [2, 9, 0])

    def test_nothing_is_printed(self):
        out, err = io.StringIO(), io.StringIO()
        with contextlib.redirect_stdout(out), contextlib.redirect_stderr(err):
            answers(EACH_CALL)
        self.assertEqual((out.getvalue(), err.getvalue()), ("", ""))


if __name__ == "__main__":
    unittest.main()
