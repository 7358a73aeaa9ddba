"""-7, -2 and -5: when they are due, in what order, and that they change nothing."""

import unittest

from tests.lines import (ANY, age_call, commit_call, counts_call, flow_call, flows_call, forget_call, open_call,
                         out_call, put_call, rule_call, run, run_open, sort_call, swap_call, tick_call, try_call)

FAR = (-2147483648, 2147483647)


class NoDesk(unittest.TestCase):
    def test_every_call_but_open_without_a_desk(self):
        calls = [put_call(0), out_call(0), swap_call(0, 0), commit_call(), forget_call(), sort_call([1]),
                 try_call([5]), tick_call(1), age_call(1), flow_call(0), flows_call(), rule_call(0), counts_call()]
        for call in calls:
            with self.subTest(call=call[0]):
                self.assertEqual(run(call), [[-7]])
        self.assertEqual(run(*calls), [[-7]] * len(calls))

    def test_before_all_else(self):
        calls = [put_call(-1), out_call(32), swap_call(32, 0), sort_call([], n=257), try_call([], n=-1),
                 tick_call(0), age_call(100001), flow_call(64), rule_call(32)]
        for call in calls:
            with self.subTest(call=call[0]):
                self.assertEqual(run(call), [[-7]])

    def test_a_call_without_a_desk_leaves_nothing(self):
        told = run(put_call(0), tick_call(5), sort_call([1]), open_call(), commit_call(), counts_call(), flows_call())
        self.assertEqual(told, [[-7], [-7], [-7], [0], [0], [0] * 7, [0] * 17])

    def test_a_refused_open_makes_no_desk(self):
        self.assertEqual(run(open_call(-1), counts_call()), [[-2], [-7]])


class NotAsTold(unittest.TestCase):
    def assert_refused(self, call):
        with self.subTest(call=call):
            self.assertEqual(run_open(call), [[-2]])

    def assert_taken(self, call):
        with self.subTest(call=call):
            self.assertEqual(run_open(call), [[1]])

    def test_places_of_rules(self):
        for place in (-1, 32) + FAR:
            self.assert_refused(put_call(place))
            self.assert_refused(out_call(place))
            self.assert_refused(swap_call(place, 0))
            self.assert_refused(swap_call(0, place))
            self.assert_refused(swap_call(place, place))

    def test_places_at_their_edges(self):
        for place in (0, 31):
            self.assert_taken(put_call(place))
            self.assert_taken(out_call(place))
            self.assert_taken(swap_call(place, 0))
            self.assert_taken(swap_call(31, place))

    def test_word(self):
        for word in (-1, 15) + FAR:
            self.assert_refused(put_call(0, word=word))
        for word in (0, 14):
            self.assert_taken(put_call(0, word=word))

    def test_lo_and_hi(self):
        for number in (-1, 65536) + FAR:
            self.assert_refused(put_call(0, lo=number))
            self.assert_refused(put_call(0, hi=number))
            self.assert_refused(put_call(0, lo=number, hi=number))
        self.assert_refused(put_call(0, lo=-1, hi=0))
        self.assert_refused(put_call(0, lo=65535, hi=65536))
        self.assert_taken(put_call(0, lo=0, hi=0))
        self.assert_taken(put_call(0, lo=65535, hi=65535))
        self.assert_taken(put_call(0, lo=0, hi=65535))

    def test_lo_not_above_hi(self):
        self.assert_refused(put_call(0, lo=1, hi=0))
        self.assert_refused(put_call(0, lo=501, hi=500))
        self.assert_taken(put_call(0, lo=500, hi=500))

    def test_deed(self):
        for deed in (-1, 256) + FAR:
            self.assert_refused(put_call(0, deed=deed))
        for deed in (0, 255):
            self.assert_taken(put_call(0, deed=deed))

    def test_n_of_sort(self):
        for n in (-1, 257) + FAR:
            self.assert_refused(sort_call([], n=n))
        self.assert_refused(sort_call([1] * 257))
        for n in (0, 256):
            self.assertEqual(run_open(sort_call([1] * n)), [[0, 1]])

    def test_numbers_of_open(self):
        for seed in (-1, 4294967296):
            self.assertEqual(run(open_call(seed)), [[-2]])
        for place in (-1, 256):
            self.assertEqual(run(open_call(0, [0] * 15 + [place])), [[-2]])
        for seed in (0, 4294967295):
            self.assertEqual(run(open_call(seed, [255] * 16)), [[0]])

    def test_rows_of_another_length(self):
        for short in ([0] * 15, [0] * 17):
            self.assertEqual(run(open_call(0, short)), [[-2]])
            self.assert_refused(put_call(0, mask=short))
            self.assert_refused(put_call(0, value=short))
            self.assert_refused(sort_call(short, n=16))
            self.assert_refused(try_call(short, n=16))

    def test_bytes_that_are_none(self):
        for octet in (-1, 256):
            row = [0] * 15 + [octet]
            self.assert_refused(put_call(0, mask=row))
            self.assert_refused(put_call(0, value=row))
            self.assert_refused(sort_call(row))


class SixteenWait(unittest.TestCase):
    def setUp(self):
        self.sixteen = [put_call(0, deed=k) for k in range(16)]

    def test_the_sixteenth_waits_and_the_seventeenth_is_refused(self):
        for call in (put_call(0), out_call(0), swap_call(0, 1)):
            told = run_open(*self.sixteen, call, call)
            self.assertEqual(told, [[k] for k in range(1, 17)] + [[-5], [-5]])

    def test_a_number_that_is_not_as_told_is_refused_first(self):
        for call in (put_call(32), put_call(0, mask=ANY, deed=256), out_call(-1), swap_call(0, 32)):
            self.assertEqual(run_open(*self.sixteen, call)[-1], [-2])

    def test_the_seventeenth_is_not_made(self):
        told = run_open(*self.sixteen, out_call(0), commit_call(), sort_call([1]))
        self.assertEqual(told[-3:], [[-5], [16], [15, 1]])

    def test_there_is_room_again_behind_commit_and_forget(self):
        for call in (commit_call(), forget_call()):
            told = run_open(*self.sixteen, call, *self.sixteen, out_call(0))
            self.assertEqual(told[-18:], [[16]] + [[k] for k in range(1, 17)] + [[-5]])


class RefusalsChangeNothing(unittest.TestCase):
    def test_what_waits_stays_as_it_was(self):
        told = run_open(put_call(0, deed=5), put_call(32, deed=6), out_call(32), swap_call(0, 32),
                        put_call(0, deed=256), commit_call(), sort_call([1]))
        self.assertEqual(told, [[1], [-2], [-2], [-2], [-2], [1], [5, 1]])

    def test_no_refusal_changes_what_is_told(self):
        before = [put_call(0, deed=9), commit_call(), put_call(0, deed=8), sort_call([1]), tick_call(3),
                  sort_call([2]), tick_call(4)]
        asked = [counts_call(), flows_call(), flow_call(0), flow_call(1), rule_call(0), sort_call([1]), commit_call(),
                 try_call([1]), tick_call(1), age_call(5), counts_call()]
        refused = [open_call(-1), put_call(32), put_call(0, lo=2, hi=1), out_call(-1), swap_call(0, 32),
                   sort_call([], n=257), sort_call([], n=-1), try_call([], n=257), tick_call(0), tick_call(100001),
                   age_call(0), age_call(100001), flow_call(64), flow_call(-1), rule_call(32), rule_call(-1)]
        not_there = [flow_call(2), flow_call(63), rule_call(1), rule_call(31)]
        expected = run_open(*before, *asked)[len(before):]
        told = run_open(*before, *refused, *not_there, *asked)[len(before):]
        self.assertEqual(told[:20], [[-2]] * 16 + [[-6]] * 4)
        self.assertEqual(told[20:], expected)

    def test_a_refused_sort_learns_nothing(self):
        told = run_open(sort_call([], n=257), sort_call([], n=-1), sort_call([]))
        self.assertEqual(told, [[-2], [-2], [0, 1]])

    def test_a_refused_sort_puts_no_flow_out(self):
        same_row = [sort_call([16 * k]) for k in range(1, 5)]
        told = run_open(*same_row, sort_call([], n=257), *same_row)
        self.assertEqual(told[4:], [[-2]] + [[0, 0]] * 4)

    def test_a_refused_open_leaves_the_desk(self):
        told = run_open(sort_call([1]), put_call(0, deed=4), open_call(-1), sort_call([1]), commit_call())
        self.assertEqual(told, [[0, 1], [1], [-2], [0, 0], [1]])


if __name__ == "__main__":
    unittest.main()
