"""How calls are handed in and answers given back, and what isn't kept or changed."""

import builtins
import contextlib
import io
import unittest
from unittest import mock

from flowrules.desk import answers
from flowrules.reading import read_calls
from tests.lines import (age_call, commit_call, counts_call, flow_call, flows_call, forget_call, joined, octets,
                         open_call, out_call, put_call, rule_call, run, sort_call, swap_call, tick_call, try_call)

LINE = [
    open_call(7, list(range(3, 19))),
    put_call(0, deed=9, word=14, lo=5, hi=77, mask=octets(b0=255), value=octets(b0=3)),
    put_call(0, deed=8),
    swap_call(0, 1),
    commit_call(),
    sort_call([1, 2, 3]),
    sort_call([0, 0, 0, 3] + [0] * 14 + [6] + [9] * 237),
    out_call(1),
    out_call(1),
    commit_call(),
    out_call(0),
    forget_call(),
    put_call(32),
    sort_call([1, 2, 3]),
    tick_call(40),
    try_call([0, 0, 0, 3] + [0] * 14 + [6]),
    sort_call([1, 2, 3]),
    flow_call(1),
    flow_call(2),
    age_call(40),
    flows_call(),
    flow_call(0),
    rule_call(0),
    rule_call(2),
    put_call(0),
    counts_call(),
    age_call(0),
]


class Answers(unittest.TestCase):
    def test_each_answer_has_its_length_ahead(self):
        line = joined([open_call(), put_call(0, deed=9), commit_call(), sort_call([1, 2])])
        self.assertEqual(answers(line), [1, 0, 1, 1, 1, 1, 2, 9, 1])

    def test_a_refusal_is_its_number_alone(self):
        line = joined([out_call(0), open_call(), out_call(0), commit_call(), sort_call([], n=257)])
        self.assertEqual(answers(line), [1, -7, 1, 0, 1, 1, 1, -100, 1, -2])

    def test_the_calls_are_answered_in_order(self):
        # The key of the frame of three bytes is all zeros, and its row 2; the other's is 7.
        kept = [0] * 17 + [8, 3, 9, 40]
        other = [0, 3] + [0] * 14 + [6, 9, 1, 256, 0]
        rule = [0, 255] + [0] * 15 + [3] + [0] * 15 + [14, 5, 77, 9]
        told = run(*LINE)
        self.assertEqual(told[:14], [
            [0], [1], [2], [3], [2], [8, 1], [9, 1], [1], [2], [-101], [1], [1], [-2], [8, 0]])
        self.assertEqual(told[14:], [
            [40], [9], [8, 0], other, [-6], [1], [1, 0, 0, 1] + [0] * 13, kept, rule, [-6], [1],
            [0, 2, 2, 0, 2, 1, 40], [-2]])

    def test_a_list_of_one_call(self):
        self.assertEqual(answers([5]), [1, -7])
        self.assertEqual(answers(open_call()), [1, 0])

    def test_sixty_calls(self):
        told = run(open_call(), *[sort_call([k]) for k in range(59)])
        self.assertEqual(len(told), 60)

    def test_the_longest_list(self):
        line = joined([open_call()] + [sort_call([k] * 256) for k in range(59)])
        self.assertLessEqual(len(line), 15600)
        self.assertEqual(len(answers(line)), 2 + 59 * 3)

    def test_answers_are_a_list_of_whole_numbers(self):
        told = answers(joined(LINE))
        self.assertIs(type(told), list)
        self.assertEqual({type(number) for number in told}, {int})


class Reading(unittest.TestCase):
    def test_rows_are_read_by_the_length_ahead_of_them(self):
        # The frame's own bytes look like calls, and must not be taken for them.
        told = run(open_call(), sort_call([5, 5, 5]), sort_call([1, 0, 16]), commit_call())
        self.assertEqual(told, [[0], [0, 1], [0, 1], [0]])

    def test_the_numbers_of_put_stand_in_the_documents_order(self):
        mask = list(range(16))
        value = list(range(100, 116))
        line = [2, 31, 14, 5, 6, 7, 16] + mask + [16] + value
        call = read_calls(line)[0]
        self.assertEqual((call.number, call.numbers, call.rows), (2, [31, 14, 5, 6, 7], [mask, value]))
        self.assertEqual(line, put_call(31, deed=7, word=14, lo=5, hi=6, mask=mask, value=value))

    def test_every_call_is_cut_out_whole(self):
        calls = [open_call(), put_call(1), [3, 1], [4, 1, 2], [5], [6], sort_call([1, 2]),
                 [8, 2, 2, 1, 2], [9, 1], [10, 1], [11, 0], [12], [13, 0], [14], [8, -1, 0]]
        found = read_calls(joined(calls))
        again = [[call.number] + call.numbers + joined([[len(row)] + row for row in call.rows]) for call in found]
        self.assertEqual(again, calls)


class NothingIsChangedOrKept(unittest.TestCase):
    def test_the_list_handed_in_is_as_it_was(self):
        line = joined(LINE)
        before = list(line)
        answers(line)
        self.assertEqual(line, before)

    def test_the_list_is_not_changed_for_a_while_either(self):
        class Watched(list):
            def refuse(self, *args, **kwargs):
                raise AssertionError("the list handed in was changed")
            __setitem__ = __delitem__ = __iadd__ = __imul__ = refuse
            append = clear = extend = insert = pop = remove = reverse = sort = refuse

        self.assertEqual(answers(Watched(joined(LINE))), answers(joined(LINE)))

    def test_what_was_given_back_is_the_callers_own(self):
        line = joined(LINE)
        first = answers(line)
        expected = list(first)
        first.clear()
        self.assertEqual(answers(line), expected)

    def test_a_second_time_answers_as_the_first(self):
        line = joined(LINE)
        first = answers(line)
        self.assertEqual(answers(line), first)
        self.assertEqual(answers(line), first)

    def test_no_desk_is_kept(self):
        answers(joined(LINE))
        self.assertEqual(answers(sort_call([1, 2, 3])), [1, -7])

    def test_nothing_is_printed_read_or_imported(self):
        def refuse(*args, **kwargs):
            raise AssertionError("something was read or imported")

        line = joined(LINE)
        shown = io.StringIO()
        with contextlib.redirect_stdout(shown), contextlib.redirect_stderr(shown):
            with mock.patch.object(builtins, "open", refuse), mock.patch.object(builtins, "input", refuse), \
                    mock.patch.object(builtins, "__import__", refuse):
                answers(line)
        self.assertEqual(shown.getvalue(), "")


if __name__ == "__main__":
    unittest.main()
