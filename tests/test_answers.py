"""The interface: how calls are read, how answers are told, and that nothing is kept or changed."""

import contextlib
import io
import unittest

from caskorders import cellar
from caskorders.cellar import answers
from helper import BEGINS, LARGEST, ask, check, full, kind, line


class Untouched(list):
    """A list that fails when it is changed, if only for a while."""

    def refuse(self, *values, **named):
        raise AssertionError("the list handed in was changed")

    append = extend = insert = pop = remove = clear = sort = reverse = refuse
    __setitem__ = __delitem__ = __iadd__ = __imul__ = refuse


EACH_CALL = line(kind(25, 2), kind(16, 2), kind(0, 1), check(41, [1, 1]), check(50, [1, 1]), check(1, [3, 0]),
                 full(40), full(83), BEGINS, kind(4, 1), full(3))
EACH_ANSWER = [1, 0, 1, 1, 1, -1, 2, 0, 2, 2, -6, 9, 1, -1,
               5, 1, 2, 1, 1, 1, 1, -6, 1, 0, 1, 0, 4, 1, 1, 1, 1]


class Form(unittest.TestCase):

    def test_the_numbers_as_they_stand(self):
        self.assertEqual(answers([0, 0, 0]), [1, 0])
        self.assertEqual(answers([1, 2, 25, 2, 0]), [1, 0])
        self.assertEqual(answers([2, 1, 7, 0]), [2, -6, 7])
        self.assertEqual(answers([1, 2, 25, 2, 0, 2, 2, 45, 2, 0]), [1, 0, 2, 5, 2])
        self.assertEqual(answers([1, 2, 25, 2, 0, 3, 1, 45, 0]), [1, 0, 4, 5, 2, 1, 2])
        self.assertEqual(answers([3, 1, 45, 0]), [1, -6])

    def test_several_calls_behind_one_another(self):
        self.assertEqual(answers(EACH_CALL), EACH_ANSWER)

    def test_a_plan_of_none_to_6_numbers_ends_with_its_call(self):
        for length in range(7):
            with self.subTest(length=length):
                self.assertEqual(ask(check(1, [0] * length), kind(5, 1), check(1, [1])),
                                 [[-1] if length else [-6, 1], [0], [4, 1]])

    def test_how_long_the_answer_of_full_is(self):
        for many in range(1, 5):
            with self.subTest(kinds=many):
                told = answers(line(*[kind(5, 1)] * many, full(5)))
                self.assertEqual(told[2 * many:], [3 + many, 0, 1, many] + [0] * (many - 1) + [1])

    def test_60_calls(self):
        calls = [BEGINS] + [kind(60, 6)] * 4 + [check(1440, [6] * 4)] * 49 + [full(1440)] * 6
        self.assertEqual(ask(*calls), [[0], [0], [1], [2], [3]] + [[0, 24]] * 49 + [[0, 24, 1, 6, 6, 6, 6]] * 6)

    def test_the_largest_number_everywhere(self):
        told = ask(kind(LARGEST, LARGEST), kind(1, LARGEST), kind(LARGEST, 1), full(LARGEST),
                   check(LARGEST, [LARGEST] * 6), check(LARGEST, []), check(1, []))
        self.assertEqual(told, [[-1]] * 6 + [[-6, 1]])

    def test_a_list_of_whole_numbers_is_given_back(self):
        told = answers(EACH_CALL)
        self.assertIs(type(told), list)
        self.assertEqual({type(number) for number in told}, {int})

    def test_the_function_is_written_in_its_file(self):
        self.assertEqual(answers.__module__, "caskorders.cellar")
        self.assertEqual(answers.__code__.co_varnames[:answers.__code__.co_argcount], ("calls",))
        self.assertIs(cellar.answers, answers)


class NothingIsChangedOrKept(unittest.TestCase):

    def test_the_list_handed_in_is_as_it_was(self):
        calls = list(EACH_CALL)
        answers(calls)
        self.assertEqual(calls, EACH_CALL)

    def test_the_list_handed_in_is_not_changed_for_a_while_either(self):
        self.assertEqual(answers(Untouched(EACH_CALL)), EACH_ANSWER)

    def test_a_second_time_answers_as_the_first(self):
        calls = list(EACH_CALL)
        first = answers(calls)
        first.clear()
        self.assertEqual(answers(calls), EACH_ANSWER)

    def test_a_cellar_begins_with_no_kinds_each_time(self):
        four = line(*[kind(9, 1)] * 4)
        for time in range(3):
            with self.subTest(time=time):
                self.assertEqual(answers(four), [1, 0, 1, 1, 1, 2, 1, 3])
                self.assertEqual(answers(full(9)), [1, -6])
                self.assertEqual(answers(check(9, [])), [2, -6, 9])

    def test_nothing_is_printed(self):
        out, err = io.StringIO(), io.StringIO()
        with contextlib.redirect_stdout(out), contextlib.redirect_stderr(err):
            answers(EACH_CALL)
        self.assertEqual((out.getvalue(), err.getvalue()), ("", ""))


if __name__ == "__main__":
    unittest.main()
