import builtins
import io
import unittest
from contextlib import redirect_stdout
from unittest import mock

from straightpieces.functions import answers
from tests.helper import add, compose, great, joined, less, line, scale, tent_sum

ALL_SIX = [line(0, 1, 0), line(1, -1, (3, 6)), add(2, 0, 1), scale(3, 0, (2, 4)), great(4, 0, 1), less(5, 0, 1),
           compose(6, 4, 5)]
WITH_REFUSALS = [line(0, 32767, 0), add(1, 0, 0), line(16, 1, 1), scale(0, 0, (1, 0)), add(0, 1, 0), line(1, 0, 0),
                 great(2, 0, 1), compose(2, 0, 0), less(3, 2, 2)]


class TestAnswers(unittest.TestCase):
    def test_one_number_for_each_call(self):
        self.assertEqual(answers(joined(ALL_SIX)), [1, 0] * 7)

    def test_a_refusal_is_its_number_alone(self):
        told = [0, -2, -1, -1, -1, 0, 0, -2, 0]
        self.assertEqual(answers(joined(WITH_REFUSALS)), joined([1, number] for number in told))

    def test_one_call_alone(self):
        self.assertEqual(answers([0, 0, 1, 1, 0, 1]), [1, 0])
        self.assertEqual(answers([1, 0, 0, 0]), [1, -1])
        self.assertEqual(answers([0, 0, 1, 1, 0, -1]), [1, -1])

    def test_the_numbers_of_a_call_are_not_taken_for_calls(self):
        self.assertEqual(answers([0, 5, 4, 3, 2, 1, 2, 1, 5, 4, 3, 5, 0, 1, 5]), [1, 0] * 3)

    def test_whole_numbers_in_a_list(self):
        given = answers(joined(WITH_REFUSALS))
        self.assertIs(type(given), list)
        for number in given:
            self.assertIs(type(number), int)

    def test_what_is_handed_in_is_not_changed(self):
        class Watched(list):
            def refuse(self, *given, **named):
                raise RuntimeError("changed")

            __setitem__ = __delitem__ = __iadd__ = __imul__ = refuse
            append = extend = insert = pop = remove = clear = sort = reverse = refuse

        calls = Watched(joined(ALL_SIX + WITH_REFUSALS))
        before = list(calls)
        answers(calls)
        self.assertEqual(list(calls), before)

    def test_a_second_time_is_as_the_first(self):
        for calls in (ALL_SIX, WITH_REFUSALS):
            first = answers(joined(calls))
            self.assertEqual(answers(joined(calls)), first)
        self.assertEqual(answers(add(0, 0, 0)), [1, -1])

    def test_the_answer_is_a_new_list_each_time(self):
        first = answers(joined(ALL_SIX))
        first.append(7)
        self.assertEqual(answers(joined(ALL_SIX)), [1, 0] * 7)

    def test_400_calls(self):
        calls = [line(k % 16, k, -k) for k in range(399)] + [add(0, 1, 15)]
        self.assertEqual(len(joined(calls)), 399 * 6 + 4)
        self.assertEqual(answers(joined(calls)), [1, 0] * 400)

    def test_400_calls_of_many_lines(self):
        calls = tent_sum(0, 3, range(31)) + tent_sum(1, 3, range(31))
        calls += [compose(2, 0, 1)] * (400 - len(calls))
        given = answers(joined(calls))
        self.assertEqual(len(given), 800)
        self.assertEqual(given[0::2], [1] * 400)

    def test_nothing_is_printed_read_or_imported(self):
        printed = io.StringIO()
        with redirect_stdout(printed), mock.patch.object(builtins, "open", side_effect=RuntimeError), \
                mock.patch.object(builtins, "__import__", side_effect=RuntimeError):
            answers(joined(ALL_SIX + WITH_REFUSALS))
        self.assertEqual(printed.getvalue(), "")
