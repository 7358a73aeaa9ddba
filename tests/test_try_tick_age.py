"""try, tick and age."""

import unittest

from flowrules.desk import Desk, answer_at
from flowrules.reading import read_calls
from flowrules.table import Table
from tests.lines import (PLACES, age_call, commit_call, counts_call, flow_call, flows_call, octets, open_call,
                         out_call, put_call, run, run_open, sort_call, swap_call, tick_call, try_call)

FAR = (-2147483648, 2147483647)
HIGHEST = 2 ** 30


def only(place, deed):
    """A rule for the frames that begin with its deed."""
    return put_call(place, deed=deed, mask=octets(b0=255), value=octets(b0=deed))


def ask(desk, call):
    return answer_at(desk, read_calls(call)[0])


class Try(unittest.TestCase):
    def test_the_deed_by_the_rules_alone(self):
        told = run_open(only(0, 7), put_call(1, deed=9), commit_call(), try_call([7]), try_call([8]), try_call([]))
        self.assertEqual(told[-3:], [[7], [9], [9]])

    def test_0_where_no_rule_fits(self):
        told = run_open(try_call([1, 2, 3]), only(0, 7), commit_call(), try_call([8]))
        self.assertEqual([told[0], told[-1]], [[0], [0]])

    def test_the_key_is_cut_at_the_told_places(self):
        places = [255, 2] + [200] * 14
        rule = put_call(0, deed=5, word=0, lo=256 * 3 + 4, hi=256 * 3 + 4)
        frame = [9, 9, 4] + [9] * 197 + [0] + [9] * 54 + [3]
        told = run(open_call(0, places), rule, commit_call(), try_call(frame), try_call(frame[:255]))
        self.assertEqual(told[-2:], [[5], [0]])

    def test_it_learns_nothing_and_counts_nothing(self):
        asked = [counts_call(), flows_call(), flow_call(0)]
        before = run_open(*asked)
        told = run_open(try_call([1]), try_call([1]), try_call([2]), *asked, sort_call([1]))
        self.assertEqual(told[3:6], before)
        self.assertEqual(told[6], [0, 1])

    def test_a_flow_that_is_there_is_not_seen_by_it(self):
        told = run_open(sort_call([1, 0]), tick_call(5), try_call([1, 0]), flow_call(0), counts_call())
        self.assertEqual(told[3][-3:], [1, 2, 0])
        self.assertEqual(told[4], [0, 0, 1, 0, 0, 0, 5])

    def test_it_puts_no_flow_out(self):
        crowd = [sort_call([16 * k]) for k in range(1, 5)]
        told = run_open(*crowd, try_call([80]), *crowd)
        self.assertEqual(told[4:], [[0]] + [[0, 0]] * 4)

    def test_changes_that_wait_are_not_heeded(self):
        told = run_open(put_call(0, deed=6), try_call([1]), commit_call(), try_call([1]), out_call(0), try_call([1]))
        self.assertEqual([told[1], told[3], told[5]], [[0], [6], [6]])

    def test_bounds_of_n(self):
        for n in (-1, 257) + FAR:
            self.assertEqual(run_open(try_call([], n=n)), [[-2]], n)
        for n in (0, 1, 255, 256):
            self.assertEqual(run_open(put_call(0, deed=3), commit_call(), try_call([1] * n))[-1], [3], n)

    def test_bytes_that_are_none(self):
        self.assertEqual(run_open(try_call([256]), try_call([-1])), [[-2], [-2]])


class LearntOrNot(unittest.TestCase):
    """The document's promise in bold: sort and try say the same of a frame, whatever happened before."""

    def test_sort_and_try_say_the_same_all_along(self):
        frames = [[], [1], [2], [16], [32], [1, 2]]
        steps = [
            [only(0, 1), only(1, 2), put_call(2, deed=99)],
            [swap_call(0, 2)],
            [out_call(0), only(0, 16)],
            [put_call(0, deed=44), out_call(30)],
            [out_call(0), out_call(0)],
        ]
        calls = []
        for step in steps:
            calls += step + [commit_call(), tick_call(3)]
            calls += [call for frame in frames for call in (try_call(frame), sort_call(frame), try_call(frame))]
        told = run_open(*calls)
        at = 0
        for step in steps:
            at += len(step) + 2
            for frame in frames:
                before, deed, behind = told[at:at + 3]
                self.assertEqual([before[0], behind[0]], [deed[0], deed[0]], (step, frame))
                at += 3

    def test_a_flow_tells_the_deed_that_try_tells(self):
        frame = [2]
        told = run_open(sort_call(frame), put_call(0, deed=5), only(0, 2), commit_call(), flow_call(0),
                        try_call(frame), swap_call(0, 1), commit_call(), flow_call(0), try_call(frame))
        self.assertEqual([told[4][17], told[5][0], told[8][17], told[9][0]], [2, 2, 5, 5])

    def test_a_flow_learnt_anew_behind_age_has_the_deed_by_the_rules(self):
        told = run_open(sort_call([1]), tick_call(1), age_call(1), put_call(0, deed=8), commit_call(), sort_call([1]),
                        try_call([1]))
        self.assertEqual(told[-2:], [[8, 1], [8]])


class Tick(unittest.TestCase):
    def test_now_is_so_much_more_and_is_answered(self):
        told = run_open(tick_call(1), tick_call(1), tick_call(100000), tick_call(7), counts_call())
        self.assertEqual(told[:4], [[1], [2], [100002], [100009]])
        self.assertEqual(told[4][-1], 100009)

    def test_bounds_of_n(self):
        for n in (0, -1, 100001) + FAR:
            self.assertEqual(run_open(tick_call(n), counts_call()), [[-2], [0, 0, 0, 0, 0, 0, 0]], n)
        for n in (1, 100000):
            self.assertEqual(run_open(tick_call(n), counts_call()), [[n], [0, 0, 0, 0, 0, 0, n]], n)

    def test_now_may_be_2_30_and_no_more(self):
        desk = Desk(0, PLACES)
        desk.now = HIGHEST - 100000
        self.assertEqual(ask(desk, tick_call(99999)), [HIGHEST - 1])
        self.assertEqual(ask(desk, tick_call(2)), [-2])
        self.assertEqual(ask(desk, tick_call(100000)), [-2])
        self.assertEqual(ask(desk, counts_call())[-1], HIGHEST - 1)
        self.assertEqual(ask(desk, tick_call(1)), [HIGHEST])
        self.assertEqual(ask(desk, tick_call(1)), [-2])
        self.assertEqual(ask(desk, counts_call())[-1], HIGHEST)

    def test_2_30_in_one_step(self):
        desk = Desk(0, PLACES)
        desk.now = HIGHEST - 100000
        self.assertEqual(ask(desk, tick_call(100000)), [HIGHEST])

    def test_2_30_from_the_beginning(self):
        # Far more calls than are handed in, since no list of sixty gets there.
        steps = HIGHEST // 100000
        told = run_open(*[tick_call(100000)] * steps, tick_call(HIGHEST % 100000 + 1), tick_call(HIGHEST % 100000),
                        tick_call(1), counts_call())
        self.assertEqual(told[-4:], [[-2], [HIGHEST], [-2], [0, 0, 0, 0, 0, 0, HIGHEST]])

    def test_at_2_30_the_other_calls_go_on(self):
        desk = Desk(0, PLACES)
        desk.now = HIGHEST
        self.assertEqual(ask(desk, sort_call([1])), [0, 1])
        self.assertEqual(ask(desk, flow_call(0))[-1], HIGHEST)
        self.assertEqual(ask(desk, age_call(1)), [0])

    def test_flows_stay_as_they_were_seen(self):
        told = run_open(sort_call([1]), tick_call(4), flow_call(0), sort_call([1]), flow_call(0))
        self.assertEqual([told[2][-1], told[4][-1]], [0, 4])


class LeastLatelySeen(unittest.TestCase):
    """With ticks between, the flow that goes for another is not always the first."""

    def crowd(self, count):
        return [call for k in range(1, count + 1) for call in (sort_call([16 * k]), tick_call(1))]

    def first_bytes(self, *calls):
        told = run_open(*calls, *[flow_call(i) for i in range(4)])
        return [answer[1] for answer in told[-4:]]

    def test_the_one_that_was_learnt_first(self):
        self.assertEqual(self.first_bytes(*self.crowd(5)), [32, 48, 64, 80])

    def test_one_seen_again_stays(self):
        again = [sort_call([16]), tick_call(1)]
        self.assertEqual(self.first_bytes(*self.crowd(4), *again, sort_call([80])), [16, 48, 64, 80])

    def test_one_after_another(self):
        again = [sort_call([16 * k]) for k in (1, 2, 4)]
        told = self.first_bytes(*self.crowd(4), *again, tick_call(1), sort_call([80]), sort_call([96]))
        self.assertEqual(told, [32, 64, 80, 96])

    def test_a_commit_is_no_sight(self):
        told = self.first_bytes(*self.crowd(4), put_call(0), commit_call(), sort_call([80]))
        self.assertEqual(told, [32, 48, 64, 80])


class Age(unittest.TestCase):
    def test_just_n_ticks_and_one_fewer(self):
        for n in (1, 2, 77, 100000):
            gone = run_open(sort_call([1]), tick_call(n), age_call(n), flows_call())
            self.assertEqual([gone[2], gone[3][0]], [[1], 0], n)
        for n in (2, 77, 100000):
            left = run_open(sort_call([1]), tick_call(n - 1), age_call(n), flows_call(), sort_call([1]))
            self.assertEqual([left[2], left[3][0], left[4]], [[0], 1, [0, 0]], n)

    def test_longer_than_n(self):
        told = run_open(sort_call([1]), tick_call(100000), tick_call(5), age_call(100000), flows_call())
        self.assertEqual([told[3], told[4][0]], [[1], 0])

    def test_seen_at_this_very_tick(self):
        told = run_open(tick_call(9), sort_call([1]), age_call(1), flows_call())
        self.assertEqual([told[2], told[3][0]], [[0], 1])

    def test_it_is_counted_from_when_it_was_seen_last(self):
        told = run_open(sort_call([1]), tick_call(5), sort_call([1]), tick_call(4), age_call(5), tick_call(1),
                        age_call(5))
        self.assertEqual([told[4], told[6]], [[0], [1]])

    def test_all_of_them_in_all_rows(self):
        frames = [sort_call([k]) for k in (0, 1, 2, 3, 16, 17, 32, 48, 255)]
        told = run_open(*frames, tick_call(3), sort_call([64]), age_call(3), flows_call(), *frames)
        self.assertEqual(told[11], [8])
        self.assertEqual(told[12][0], 1)

    def test_those_left_keep_their_order(self):
        told = run_open(sort_call([0]), sort_call([16]), tick_call(1), sort_call([32]), sort_call([48]),
                        sort_call([0]), age_call(1), flow_call(0), flow_call(1), flow_call(2), flow_call(3))
        self.assertEqual(told[6], [1])
        self.assertEqual([answer[1] for answer in told[7:10]], [0, 32, 48])
        self.assertEqual(told[10], [-6])

    def test_none_there(self):
        self.assertEqual(run_open(age_call(1), tick_call(9), age_call(1)), [[0], [9], [0]])

    def test_a_second_time_none_goes(self):
        told = run_open(sort_call([1]), sort_call([2]), tick_call(1), age_call(1), age_call(1))
        self.assertEqual(told[3:], [[2], [0]])

    def test_there_is_room_again(self):
        crowd = [sort_call([16 * k]) for k in range(1, 5)]
        told = run_open(*crowd, tick_call(1), sort_call([16]), age_call(1), sort_call([80]), sort_call([96]),
                        sort_call([112]), sort_call([128]))
        self.assertEqual(told[5:], [[0, 0], [3], [0, 1], [0, 1], [0, 1], [0, 2]])

    def test_those_that_go_by_age_are_learnt_anew(self):
        told = run_open(sort_call([1, 2]), sort_call([1, 2]), tick_call(2), age_call(2), sort_call([1, 2]),
                        flow_call(0))
        self.assertEqual(told[4], [0, 1])
        self.assertEqual(told[5][-3:], [1, 2, 2])

    def test_it_does_not_change_now(self):
        told = run_open(tick_call(3), age_call(2), counts_call(), tick_call(1))
        self.assertEqual([told[2][-1], told[3]], [3, [4]])

    def test_bounds_of_n(self):
        for n in (0, -1, 100001) + FAR:
            told = run_open(sort_call([1]), tick_call(1), age_call(n), flows_call())
            self.assertEqual([told[2], told[3][0]], [[-2], 1], n)
        for n in (1, 100000):
            self.assertEqual(run_open(sort_call([1]), tick_call(100000), age_call(n))[-1], [1], n)

    def test_on_the_table_itself(self):
        table = Table(0)
        for now in range(4):
            table.sort_frame([], octets(b0=16 * now), 1, now)
        self.assertEqual(table.let_old_go(8, 10), 3)
        self.assertEqual([flow.seen for flow in table.in_order()], [3])


if __name__ == "__main__":
    unittest.main()
