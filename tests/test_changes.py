"""put, out, swap, commit and forget."""

import unittest

from tests.lines import (commit_call, forget_call, octets, open_call, out_call, put_call, run_open, sort_call,
                         swap_call)


def only(place, deed):
    """A rule for the frames that begin with its deed."""
    return put_call(place, deed=deed, mask=octets(b0=255), value=octets(b0=deed))


def fill(count):
    """So many rules, committed 16 at a time: each fits all keys, and their deeds are 1, 2, 3 and so on."""
    calls = []
    for k in range(count):
        calls.append(put_call(k, deed=k + 1))
        if k % 16 == 15:
            calls.append(commit_call())
    return calls + [commit_call()]


def deed_order(*calls):
    """The deeds of the rules in their order, seen by taking out the first again and again."""
    deeds = []
    for step in range(33):
        told = run_open(*calls, *[call for deed in deeds for call in (out_call(0), commit_call())], sort_call([]))
        if told[-1][0] == 0:
            return deeds
        deeds.append(told[-1][0])
    raise AssertionError("there are more than 32 rules")


class Waiting(unittest.TestCase):
    def test_it_answers_how_many_wait(self):
        told = run_open(put_call(0), out_call(31), swap_call(3, 4), put_call(31))
        self.assertEqual(told, [[1], [2], [3], [4]])

    def test_nothing_is_changed_before_commit(self):
        told = run_open(put_call(0, deed=5), sort_call([1]), commit_call(), out_call(0), sort_call([2]))
        self.assertEqual(told, [[1], [0, 1], [1], [1], [5, 1]])

    def test_forget_answers_how_many_waited(self):
        told = run_open(forget_call(), put_call(0), out_call(0), forget_call(), forget_call(), commit_call())
        self.assertEqual(told, [[0], [1], [2], [2], [0], [0]])

    def test_forget_leaves_the_rules(self):
        told = run_open(put_call(0, deed=5), commit_call(), out_call(0), forget_call(), commit_call(), sort_call([]))
        self.assertEqual(told[2:], [[1], [1], [1], [5, 1]])

    def test_forget_of_sixteen(self):
        told = run_open(*[put_call(0)] * 16, forget_call(), put_call(0))
        self.assertEqual(told[-2:], [[16], [1]])


class Made(unittest.TestCase):
    def test_put_moves_those_from_there_on_one_further(self):
        three = [put_call(0, deed=1), put_call(1, deed=2), put_call(2, deed=3)]
        for place, order in ((0, [9, 1, 2, 3]), (1, [1, 9, 2, 3]), (2, [1, 2, 9, 3]), (3, [1, 2, 3, 9])):
            self.assertEqual(deed_order(*three, put_call(place, deed=9), commit_call()), order)

    def test_out_takes_just_that_one(self):
        for place, order in ((0, [2, 3]), (1, [1, 3]), (2, [1, 2])):
            self.assertEqual(deed_order(*fill(3), out_call(place), commit_call()), order)

    def test_swap_exchanges_two(self):
        for place, other, order in ((0, 2, [3, 2, 1, 4]), (3, 1, [1, 4, 3, 2]), (1, 2, [1, 3, 2, 4])):
            self.assertEqual(deed_order(*fill(4), swap_call(place, other), commit_call()), order)

    def test_swap_of_a_place_with_itself(self):
        told = run_open(*fill(2), swap_call(1, 1), commit_call())
        self.assertEqual(told[-1], [2])
        self.assertEqual(deed_order(*fill(2), swap_call(1, 1), commit_call()), [1, 2])

    def test_one_behind_another(self):
        calls = [put_call(0, deed=1), put_call(0, deed=2), swap_call(0, 1), put_call(1, deed=3), out_call(0)]
        self.assertEqual(run_open(*calls, commit_call())[-1], [2])
        self.assertEqual(deed_order(*calls, commit_call()), [3, 2])

    def test_commit_answers_how_many_rules_there_are(self):
        told = run_open(commit_call(), put_call(0), put_call(0), commit_call(), commit_call(), out_call(1),
                        commit_call())
        self.assertEqual([told[0], told[3], told[4], told[6]], [[0], [2], [2], [1]])

    def test_none_waits_behind_commit(self):
        told = run_open(put_call(0), commit_call(), forget_call(), put_call(0))
        self.assertEqual(told[2:], [[0], [1]])

    def test_sixteen_changes_at_once(self):
        told = run_open(*[put_call(k, deed=k + 1) for k in range(16)], commit_call())
        self.assertEqual(told[-1], [16])


class CannotBeMade(unittest.TestCase):
    def test_put_beyond_the_next_place(self):
        self.assertEqual(run_open(put_call(1), commit_call())[-1], [-100])
        self.assertEqual(run_open(*fill(3), put_call(4), commit_call())[-1], [-100])
        self.assertEqual(run_open(*fill(3), put_call(3), commit_call())[-1], [4])

    def test_out_where_there_is_no_rule(self):
        self.assertEqual(run_open(out_call(0), commit_call())[-1], [-100])
        self.assertEqual(run_open(*fill(3), out_call(3), commit_call())[-1], [-100])
        self.assertEqual(run_open(*fill(3), out_call(2), commit_call())[-1], [2])

    def test_swap_where_one_is_missing(self):
        for place, other in ((0, 3), (3, 0), (3, 3), (31, 0)):
            self.assertEqual(run_open(*fill(3), swap_call(place, other), commit_call())[-1], [-100])
        self.assertEqual(run_open(*fill(3), swap_call(0, 2), commit_call())[-1], [3])

    def test_a_33rd_rule(self):
        for place in (0, 31):
            told = run_open(*fill(31), put_call(31), commit_call(), put_call(place), commit_call())
            self.assertEqual(told[-3:], [[32], [1], [-100]])

    def test_a_32nd_rule_may_be_exchanged_for_another(self):
        told = run_open(*fill(32), out_call(31), put_call(31, deed=77), commit_call())
        self.assertEqual(told[-1], [32])

    def test_the_rules_as_they_are_by_then_decide(self):
        told = run_open(*fill(32), out_call(0), put_call(31), put_call(0), commit_call())
        self.assertEqual(told[-1], [-102])
        told = run_open(put_call(0), out_call(0), out_call(0), commit_call())
        self.assertEqual(told[-1], [-102])

    def test_the_first_a_middle_and_the_last_and_none_is_made(self):
        good = [put_call(0, deed=11), put_call(0, deed=12), put_call(0, deed=13), put_call(0, deed=14)]
        for bad in (put_call(20), out_call(20), swap_call(0, 20)):
            for k in range(5):
                calls = [*fill(2), *good[:k], bad, *good[k:], commit_call()]
                self.assertEqual(run_open(*calls)[-1], [-100 - k])
                self.assertEqual(deed_order(*calls), [1, 2])

    def test_none_is_made_of_outs_and_swaps_either(self):
        calls = [*fill(4), swap_call(0, 3), out_call(1), out_call(3), commit_call()]
        self.assertEqual(run_open(*calls)[-1], [-102])
        self.assertEqual(deed_order(*calls), [1, 2, 3, 4])

    def test_the_sixteenth_change(self):
        told = run_open(*[put_call(0)] * 15, out_call(15), commit_call(), commit_call())
        self.assertEqual(told[-2:], [[-115], [0]])

    def test_the_first_of_several_that_fail_is_told(self):
        told = run_open(put_call(0), out_call(5), out_call(6), commit_call())
        self.assertEqual(told[-1], [-101])

    def test_none_waits_behind_a_refused_commit(self):
        told = run_open(put_call(0), out_call(5), commit_call(), commit_call(), forget_call(), put_call(0))
        self.assertEqual(told[2:], [[-101], [0], [0], [1]])


class FlowsDeedsBehindACommit(unittest.TestCase):
    def test_they_are_those_by_the_new_rules(self):
        frames = [sort_call([k]) for k in range(1, 4)]
        told = run_open(*frames, only(0, 1), only(0, 2), commit_call(), *frames)
        self.assertEqual(told[-3:], [[1, 0], [2, 0], [0, 0]])

    def test_they_follow_out_and_swap(self):
        told = run_open(*fill(3), sort_call([]), swap_call(0, 2), commit_call(), sort_call([]), out_call(0),
                        commit_call(), sort_call([]))
        self.assertEqual([answer for answer in told if len(answer) == 2], [[1, 1], [3, 0], [2, 0]])

    def test_they_become_0_when_no_rule_fits_any_more(self):
        told = run_open(put_call(0, deed=7), commit_call(), sort_call([]), out_call(0), commit_call(), sort_call([]))
        self.assertEqual([told[2], told[-1]], [[7, 1], [0, 0]])

    def test_every_row_and_every_flow_of_a_row_follows(self):
        frames = [sort_call([k, 0]) for k in (0, 1, 2, 3, 7, 15, 16, 32, 48, 255)]
        told = run_open(*frames, put_call(0, deed=7), commit_call(), *frames)
        self.assertEqual(told[-10:], [[7, 0]] * 10)

    def test_they_stay_behind_a_refused_commit(self):
        told = run_open(put_call(0, deed=7), commit_call(), sort_call([1]), put_call(0, deed=8), out_call(9),
                        commit_call(), sort_call([1]), sort_call([2]))
        self.assertEqual(told[-3:], [[-101], [7, 0], [7, 1]])

    def test_they_stay_while_changes_wait(self):
        told = run_open(put_call(0, deed=7), commit_call(), sort_call([1]), out_call(0), sort_call([1]),
                        forget_call(), sort_call([1]))
        self.assertEqual([told[2], told[4], told[6]], [[7, 1], [7, 0], [7, 0]])

    def test_a_learnt_flow_and_one_not_learnt_have_the_same_deed(self):
        changes = [only(0, 1), only(0, 2), put_call(2, deed=9), commit_call(), swap_call(0, 2), commit_call()]
        frames = [sort_call([k]) for k in range(4)]
        before = run_open(*frames, *changes, *frames)[-4:]
        behind = run_open(*changes, *frames)[-4:]
        self.assertEqual([answer[0] for answer in before], [answer[0] for answer in behind])


class Reopened(unittest.TestCase):
    def test_nothing_waits_behind_open(self):
        told = run_open(put_call(0), open_call(), forget_call(), commit_call())
        self.assertEqual(told, [[1], [0], [0], [0]])


if __name__ == "__main__":
    unittest.main()
