import builtins
import io
import unittest
from contextlib import redirect_stdout
from unittest import mock

from straightpieces.functions import answers
from tests.helper import (MOST_CALLS, MOST_NUMBERS, MOST_OTHER, Object, add, answered, below, compose, form, great,
                          inverse, joined, less, line, rising, same, scale, size_of_x, tent_sum, value)

# Every kind of call, with what it answers.
ALL_ELEVEN = (
    (line(0, 1, 0), [0]),
    (line(1, -1, (3, 6)), [0]),
    (add(2, 0, 1), [0]),
    (scale(3, 0, (2, 4)), [0]),
    (great(4, 0, 1), [0]),
    (less(5, 0, 1), [0]),
    (compose(6, 4, 5), [0]),
    (inverse(7, 1), [0]),
    (value(3, 7), [0, 7, 2]),
    (value(2, (5, 9)), [0, 1, 2]),
    (same(1, 7), [0, 1]),
    (same(0, 1), [0, 0]),
    (below(5, 4), [0, 1]),
    (below(4, 5), [0, 0]),
    (form(2), [0, 0, 1, 1, 2]),
    (form(4), [0, -1, 1, 1, 2, 1, 4, 1, 1, 0, 1]),
    (form(6), [0, -1, 1, 1, 2, 1, 4, 1, 1, 0, 1]),
)

# Every kind of call refused, in every way that it can be.
WITH_REFUSALS = (
    (form(0), [-1]),
    (line(16, 1, 1), [-1]),
    (line(0, 32767, MOST_OTHER), [0]),
    (line(0, (32768, 1), 0), [-1]),
    (add(1, 0, 1), [-1]),
    (add(1, 0, 0), [-2]),
    (scale(0, 0, (1, 0)), [-1]),
    (scale(0, 0, 2), [-2]),
    (great(16, 0, 0), [-1]),
    (less(0, 0, 9), [-1]),
    (line(1, (1, 2), MOST_OTHER), [0]),
    (line(2, (1, 3), 0), [0]),
    (great(3, 1, 2), [-2]),
    (less(3, 1, 2), [-2]),
    (compose(3, 3, 0), [-1]),
    (compose(3, 0, 0), [-2]),
    (inverse(3, 3), [-1]),
    (inverse(3, 1), [-2]),
    (line(3, 0, 8), [0]),
    (inverse(3, 3), [-5]),
    (value(4, 0), [-1]),
    (value(0, (1, 0)), [-1]),
    (line(4, (1, 32767), (1, MOST_OTHER)), [0]),
    (value(4, (1, 2147483629)), [-2]),
    (same(0, 5), [-1]),
    (below(5, 0), [-1]),
    (form(16), [-1]),
    (form(4294967295), [-1]),
    (form(0), [0, 32767, 1, MOST_OTHER, 1]),
    (form(3), [0, 0, 1, 8, 1]),
)


def calls_of(rows):
    return joined(call for call, answer in rows)


def answers_of(rows):
    return joined([len(answer)] + answer for call, answer in rows)


class TestAnswers(unittest.TestCase):
    def test_how_many_numbers_then_these(self):
        self.assertEqual({call[0] for call, answer in ALL_ELEVEN}, set(range(11)))
        self.assertEqual(answers(calls_of(ALL_ELEVEN)), answers_of(ALL_ELEVEN))

    def test_a_refusal_is_its_number_alone(self):
        self.assertEqual({call[0] for call, answer in WITH_REFUSALS if answer[0] < 0}, set(range(11)))
        self.assertEqual(answers(calls_of(WITH_REFUSALS)), answers_of(WITH_REFUSALS))

    def test_one_call_alone(self):
        self.assertEqual(answers([0, 0, 1, 1, 0, 1]), [1, 0])
        self.assertEqual(answers([0, 0, 1, 1, 0, -1]), [1, -1])
        for call in ([1, 0, 0, 0], [2, 0, 0, 1, 1], [3, 0, 0, 0], [4, 0, 0, 0], [5, 0, 0, 0], [6, 0, 0], [7, 0, 1, 1],
                     [8, 0, 0], [9, 0, 0], [10, 0]):
            self.assertEqual(answers(call), [1, -1])

    def test_as_it_is_written_out(self):
        self.assertEqual(answers([0, 3, 4, 6, -1, 2, 10, 3, 7, 3, 3, 6, 8, 3, 3, 9, 3, 3, 6, 3, 3, 10, 3]),
                         [1, 0, 5, 0, 2, 3, -1, 2, 3, 0, -1, 6, 2, 0, 1, 2, 0, 1, 1, 0, 5, 0, 3, 2, 3, 4])

    def test_the_numbers_of_a_call_are_not_taken_for_calls(self):
        calls = [0, 5, 4, 3, 2, 1, 2, 1, 5, 4, 3, 5, 0, 1, 5, 6, 7, 5, 7, 5, 10, 9, 8, 5, 7, 9, 5, 7, 10, 7]
        self.assertEqual(answers(calls), [1, 0, 1, 0, 1, 0, 1, 0, 3, 0, 94, 27, 2, 0, 0, 2, 0, 0, 5, 0, 3, 4, -3, 2])

    def test_what_is_asked_makes_nothing(self):
        asked = [value(0, 3), same(0, 1), below(0, 1), form(1), value(9, 1), same(9, 0), below(0, 9), form(9)]
        before = rising(0, 3, [1, 2]) + size_of_x(1, 2)
        kept = Object(*before)
        forms = kept.all_forms()
        first = kept.ask(asked)
        for call in asked * 3:
            kept.call(call)
        self.assertEqual(kept.all_forms(), forms)
        self.assertEqual(kept.ask(asked), first)

    def test_whole_numbers_in_a_list(self):
        for rows in (ALL_ELEVEN, WITH_REFUSALS):
            given = answers(calls_of(rows))
            self.assertIs(type(given), list)
            for number in given:
                self.assertIs(type(number), int)

    def test_what_is_handed_in_is_not_changed(self):
        class Watched(list):
            def refuse(self, *given, **named):
                raise RuntimeError("changed")

            __setitem__ = __delitem__ = __iadd__ = __imul__ = refuse
            append = extend = insert = pop = remove = clear = sort = reverse = refuse

        for rows in (ALL_ELEVEN, WITH_REFUSALS):
            calls = Watched(calls_of(rows))
            before = list(calls)
            answers(calls)
            self.assertEqual(list(calls), before)

    def test_a_second_time_is_as_the_first(self):
        for rows in (ALL_ELEVEN, WITH_REFUSALS, ALL_ELEVEN):
            calls = calls_of(rows)
            first = answers(calls)
            self.assertEqual(answers(calls), first)
            self.assertEqual(answers(list(calls)), first)
        for h in range(16):
            self.assertEqual(answers(form(h)), [1, -1])

    def test_the_answer_is_a_new_list_each_time(self):
        first = answers(calls_of(ALL_ELEVEN))
        first[:] = [7]
        self.assertEqual(answers(calls_of(ALL_ELEVEN)), answers_of(ALL_ELEVEN))

    def test_400_calls_and_2400_numbers(self):
        calls = [line(k % 16, k, -k) for k in range(MOST_CALLS)]
        self.assertEqual(len(joined(calls)), MOST_NUMBERS)
        self.assertEqual(answers(joined(calls)), [1, 0] * MOST_CALLS)

    def test_400_calls_of_all_eleven_kinds(self):
        rows = list(ALL_ELEVEN)
        while len(rows) + len(ALL_ELEVEN) <= MOST_CALLS:
            rows += ALL_ELEVEN
        rows += ALL_ELEVEN[:MOST_CALLS - len(rows)]
        self.assertEqual(len(rows), MOST_CALLS)
        self.assertEqual(answers(calls_of(rows)), answers_of(rows))

    def test_400_calls_of_many_lines(self):
        before = rising(0, 3, range(31)) + [inverse(1, 0)]
        for call, length in ((compose(2, 0, 0), 1), (compose(2, 0, 1), 1), (inverse(2, 0), 1), (great(2, 0, 1), 1),
                             (value(0, 30), 3), (same(0, 1), 2), (below(1, 0), 2), (form(0), 191)):
            calls = before + [call] * (MOST_CALLS - len(before))
            given = answered(calls)
            self.assertEqual(given[-1], given[len(before)])
            self.assertEqual(len(given[-1]), length)

    def test_each_call_sees_what_those_ahead_of_it_made(self):
        calls = [line(0, 1, 1), form(0), add(0, 0, 0), form(0), line(0, 5, 0), form(0), inverse(0, 0), form(0)]
        told = [[0], [0, 1, 1, 1, 1], [0], [0, 2, 1, 2, 1], [0], [0, 5, 1, 0, 1], [0], [0, 1, 5, 0, 1]]
        self.assertEqual(answered(calls), told)

    def test_what_is_kept_elsewhere_stays_when_its_source_changes(self):
        calls = tent_sum(0, 3, [1]) + [line(5, 0, 0), add(1, 0, 5), great(2, 0, 0), line(0, 9, 9)]
        told = [0, 0, 1, 0, 1, 1, 1, 1, 1, -1, 1]
        self.assertEqual(answered(calls + [form(1), form(2)])[-2:], [told, told])

    def test_nothing_is_printed_read_or_imported(self):
        printed = io.StringIO()
        with redirect_stdout(printed), mock.patch.object(builtins, "open", side_effect=RuntimeError), \
                mock.patch.object(builtins, "input", side_effect=RuntimeError), \
                mock.patch.object(builtins, "__import__", side_effect=RuntimeError):
            for rows in (ALL_ELEVEN, WITH_REFUSALS):
                answers(calls_of(rows))
        self.assertEqual(printed.getvalue(), "")
