"""flow, flows, rule and counts."""

import unittest

from flowrules.desk import Desk, answer_at
from flowrules.reading import read_calls
from flowrules.table import row_number
from tests.lines import (PLACES, age_call, commit_call, counts_call, flow_call, flows_call, forget_call, octets,
                         open_call, out_call, put_call, rule_call, run, run_open, sort_call, swap_call, tick_call,
                         try_call)

FAR = (-2147483648, 2147483647)


def row_of_first(octet):
    """The row, under seed 0, of a key that has only its first byte."""
    # Sixteen times 3 is once, modulo 16: what is left is the start's 5, with the byte added.
    return 5 ^ (octet % 16)


def keys_told(*calls):
    """The first bytes of all flows, as flow tells them one by one."""
    told = run_open(*calls, *[flow_call(i) for i in range(64)])[-64:]
    found = [answer[1] for answer in told if answer != [-6]]
    if told[len(found):] != [[-6]] * (64 - len(found)):
        raise AssertionError("behind a flow that isn't there is one")
    return found


class Flow(unittest.TestCase):
    def test_all_that_is_told_of_one(self):
        frame = list(range(101, 121))
        told = run_open(put_call(0, deed=200), commit_call(), tick_call(6), sort_call(frame), tick_call(5),
                        sort_call(frame), sort_call(frame[:16]), tick_call(3), flow_call(0))
        self.assertEqual(told[-1], [0] + frame[:16] + [200, 3, 56, 11])

    def test_the_key_is_told_not_the_frame(self):
        places = [3, 3, 0] + [250] * 13
        told = run(open_call(5, places), sort_call([7, 8, 9, 10]), flow_call(0))
        self.assertEqual(told[-1], [0, 10, 10, 7] + [0] * 13 + [0, 1, 4, 0])

    def test_frames_without_bytes_count_too(self):
        told = run_open(sort_call([]), sort_call([]), sort_call([0] * 256), flow_call(0))
        self.assertEqual(told[-1], [0] + [0] * 16 + [0, 3, 256, 0])

    def test_row_by_row_and_in_order(self):
        firsts = [0, 5, 16, 10, 4, 21, 1, 32, 20]
        ordered = sorted(firsts, key=row_of_first)
        self.assertEqual(ordered, [5, 21, 4, 20, 1, 0, 16, 32, 10])
        self.assertEqual(keys_told(*[sort_call([first]) for first in firsts]), ordered)

    def test_a_flow_seen_again_keeps_its_number(self):
        frames = [sort_call([first]) for first in (0, 16, 32, 5)]
        self.assertEqual(keys_told(*frames, tick_call(1), sort_call([0]), sort_call([16])), [5, 0, 16, 32])

    def test_behind_one_that_went_for_another(self):
        frames = [sort_call([first]) for first in (10, 0, 16, 32, 48, 5)]
        self.assertEqual(keys_told(*frames, sort_call([64])), [5, 16, 32, 48, 64, 10])
        self.assertEqual(keys_told(*frames, tick_call(1), sort_call([0]), sort_call([64])), [5, 0, 32, 48, 64, 10])
        self.assertEqual(keys_told(*frames, sort_call([64]), sort_call([0])), [5, 32, 48, 64, 0, 10])

    def test_behind_some_that_went_by_age(self):
        frames = [sort_call([first]) for first in (10, 0, 16, 32, 5)]
        told = keys_told(*frames, tick_call(2), sort_call([16]), sort_call([10]), age_call(2), sort_call([0]))
        self.assertEqual(told, [16, 0, 10])

    def test_the_seed_decides_the_rows(self):
        for seed in (0, 1, 6, 4294967295, 2166136261):
            keys = [octets(b0=first, b15=first) for first in (1, 2, 3, 4, 5, 17, 33)]
            told = run(open_call(seed), *[sort_call(key) for key in keys], *[flow_call(i) for i in range(7)])
            self.assertEqual([answer[1:17] for answer in told[-7:]],
                             sorted(keys, key=lambda key: row_number(seed, key)), seed)

    def test_none_there(self):
        for i in (0, 1, 63):
            self.assertEqual(run_open(flow_call(i)), [[-6]])
        told = run_open(sort_call([1]), sort_call([2]), flow_call(1), flow_call(2), flow_call(63))
        self.assertEqual([told[2][0], told[3], told[4]], [0, [-6], [-6]])

    def test_bounds_of_i(self):
        for i in (-1, 64) + FAR:
            self.assertEqual(run_open(sort_call([1]), flow_call(i))[-1], [-2], i)

    def test_sixty_four_flows(self):
        # More calls than are handed in, since a list of sixty learns 59 flows at the most.
        firsts = [16 * turn + k for turn in range(4) for k in range(16)]
        frames = [sort_call([first]) for first in firsts]
        told = run_open(*frames, flow_call(63), flow_call(64), flow_call(-1), flows_call())
        self.assertEqual(told[64][:2], [0, 48 + 10])
        self.assertEqual(told[65:], [[-2], [-2], [64] + [4] * 16])
        self.assertEqual(keys_told(*frames), sorted(firsts, key=row_of_first))

    def test_the_deed_follows_a_commit_and_the_rest_does_not(self):
        told = run_open(sort_call([1, 2]), tick_call(3), put_call(0, deed=66), flow_call(0), commit_call(),
                        flow_call(0), put_call(0, deed=67), out_call(9), commit_call(), flow_call(0))
        key = [1, 2] + [0] * 14
        self.assertEqual([told[3], told[5], told[9]],
                         [[0] + key + [0, 1, 2, 0], [0] + key + [66, 1, 2, 0], [0] + key + [66, 1, 2, 0]])

    def test_asking_changes_nothing(self):
        told = run_open(sort_call([1]), tick_call(1), flow_call(0), flow_call(0), flow_call(1), counts_call())
        self.assertEqual(told[2], told[3])
        self.assertEqual(told[5], [0, 0, 1, 0, 0, 0, 1])


class Flows(unittest.TestCase):
    def test_none(self):
        self.assertEqual(run_open(flows_call()), [[0] * 17])

    def test_of_each_row_how_many(self):
        firsts = [0, 5, 16, 10, 4, 21, 1, 32, 20]
        expected = [0] * 16
        for first in firsts:
            expected[row_of_first(first)] += 1
        self.assertEqual(run_open(*[sort_call([first]) for first in firsts], flows_call())[-1], [9] + expected)
        self.assertEqual(expected, [2, 2, 0, 0, 1, 3, 0, 0, 0, 0, 0, 0, 0, 0, 0, 1])

    def test_four_in_a_row_at_the_most(self):
        told = run_open(*[sort_call([16 * k]) for k in range(9)], flows_call())
        self.assertEqual(told[-1], [4] + [0] * 5 + [4] + [0] * 10)

    def test_behind_age(self):
        told = run_open(sort_call([5]), sort_call([0]), tick_call(1), sort_call([16]), age_call(1), flows_call())
        self.assertEqual(told[-1], [1] + [0] * 5 + [1] + [0] * 10)

    def test_a_frame_that_comes_again_is_one_flow(self):
        self.assertEqual(run_open(sort_call([5]), sort_call([5]), flows_call())[-1], [1, 1] + [0] * 15)

    def test_the_seed_decides_the_rows(self):
        told = run(open_call(6), sort_call([0]), flows_call())
        self.assertEqual(told[-1], [1] + [1 if row == 3 else 0 for row in range(16)])


class RuleTold(unittest.TestCase):
    def test_all_that_is_told_of_one(self):
        mask = [255, 240, 15, 0, 1, 128, 255, 255, 3, 0, 0, 0, 7, 9, 85, 170]
        value = [1, 255, 255, 255, 3, 129, 0, 255, 6, 1, 2, 3, 8, 10, 255, 255]
        under = [1, 240, 15, 0, 1, 128, 0, 255, 2, 0, 0, 0, 0, 8, 85, 170]
        told = run_open(put_call(0, deed=77, word=13, lo=12, hi=60000, mask=mask, value=value), commit_call(),
                        rule_call(0))
        self.assertEqual(told[-1], [0] + mask + under + [13, 12, 60000, 77])

    def test_the_edges_of_its_numbers(self):
        told = run_open(put_call(0, deed=255, word=14, lo=65535, hi=65535, mask=[255] * 16, value=[255] * 16),
                        put_call(1, deed=0, word=0, lo=0, hi=0), commit_call(), rule_call(0), rule_call(1))
        self.assertEqual(told[-2:], [[0] + [255] * 32 + [14, 65535, 65535, 255], [0] * 37])

    def deeds(self, *calls):
        told = run_open(*calls, *[rule_call(place) for place in range(32)])[-32:]
        return [answer[-1] for answer in told if answer != [-6]]

    def test_places_are_the_rules_order(self):
        three = [put_call(k, deed=k + 1) for k in range(3)] + [commit_call()]
        self.assertEqual(self.deeds(*three), [1, 2, 3])
        self.assertEqual(self.deeds(*three, put_call(1, deed=9), commit_call()), [1, 9, 2, 3])
        self.assertEqual(self.deeds(*three, out_call(1), commit_call()), [1, 3])
        self.assertEqual(self.deeds(*three, swap_call(0, 2), commit_call()), [3, 2, 1])

    def test_what_waits_is_not_told(self):
        told = run_open(put_call(0, deed=5), rule_call(0), commit_call(), out_call(0), rule_call(0), forget_call(),
                        rule_call(0))
        self.assertEqual([told[1], told[4][-1], told[6][-1]], [[-6], 5, 5])

    def test_behind_a_refused_commit(self):
        told = run_open(put_call(0, deed=5), commit_call(), put_call(0, deed=6), swap_call(0, 1), out_call(2),
                        commit_call(), rule_call(0), rule_call(1))
        self.assertEqual([told[5], told[6][-1], told[7]], [[-102], 5, [-6]])

    def test_none_there(self):
        for place in (0, 1, 31):
            self.assertEqual(run_open(rule_call(place)), [[-6]])
        told = run_open(put_call(0), put_call(1), commit_call(), rule_call(1), rule_call(2), rule_call(31))
        self.assertEqual([told[3][0], told[4], told[5]], [0, [-6], [-6]])

    def test_bounds_of_the_place(self):
        for place in (-1, 32) + FAR:
            self.assertEqual(run_open(put_call(0), commit_call(), rule_call(place))[-1], [-2], place)

    def test_thirty_two_rules(self):
        first = [put_call(k, deed=k + 1) for k in range(16)] + [commit_call()]
        second = [put_call(k, deed=k + 1) for k in range(16, 32)] + [commit_call()]
        told = run_open(*first, *second, rule_call(0), rule_call(31), rule_call(32))
        self.assertEqual([told[-3][-1], told[-2][-1], told[-1]], [1, 32, [-2]])
        self.assertEqual(self.deeds(*first, *second), list(range(1, 33)))


class Counts(unittest.TestCase):
    def counted(self, *calls):
        return run_open(*calls, counts_call())[-1]

    def test_at_first(self):
        self.assertEqual(self.counted(), [0] * 7)

    def test_every_kind_of_sort(self):
        crowd = [sort_call([16 * k]) for k in range(1, 5)]
        self.assertEqual(self.counted(crowd[0]), [0, 0, 1, 0, 0, 0, 0])
        self.assertEqual(self.counted(crowd[0], crowd[0], crowd[0]), [0, 2, 1, 0, 0, 0, 0])
        self.assertEqual(self.counted(*crowd), [0, 0, 4, 0, 0, 0, 0])
        self.assertEqual(self.counted(*crowd, sort_call([80])), [0, 0, 5, 1, 0, 0, 0])
        self.assertEqual(self.counted(*crowd, sort_call([80]), crowd[3], crowd[0]), [0, 1, 6, 2, 0, 0, 0])

    def test_a_refused_sort_is_not_counted(self):
        self.assertEqual(self.counted(sort_call([], n=257), sort_call([], n=-1)), [0] * 7)

    def test_try_is_not_counted(self):
        self.assertEqual(self.counted(sort_call([1]), try_call([1]), try_call([2])), [0, 0, 1, 0, 0, 0, 0])

    def test_flows_that_go_by_age_did_not_go_for_others(self):
        told = self.counted(sort_call([1]), sort_call([1]), tick_call(1), age_call(1), sort_call([1]))
        self.assertEqual(told, [0, 1, 2, 0, 0, 0, 1])

    def test_rules_and_changes_that_wait(self):
        self.assertEqual(self.counted(put_call(0), put_call(0), out_call(9)), [0, 0, 0, 0, 0, 3, 0])
        self.assertEqual(self.counted(put_call(0), put_call(0), commit_call()), [0, 0, 0, 0, 2, 0, 0])
        self.assertEqual(self.counted(put_call(0), put_call(0), commit_call(), out_call(0)), [0, 0, 0, 0, 2, 1, 0])
        self.assertEqual(self.counted(*[put_call(0)] * 17), [0, 0, 0, 0, 0, 16, 0])

    def test_behind_a_commit_that_fails(self):
        told = self.counted(put_call(0), commit_call(), sort_call([1]), put_call(0), out_call(5), commit_call())
        self.assertEqual(told, [0, 0, 1, 0, 1, 0, 0])

    def test_behind_a_commit_that_does_not(self):
        told = self.counted(sort_call([1]), sort_call([1]), put_call(0), put_call(0), commit_call(), sort_call([1]))
        self.assertEqual(told, [0, 2, 1, 0, 2, 0, 0])

    def test_behind_forget(self):
        told = self.counted(put_call(0), commit_call(), put_call(0), out_call(0), sort_call([]), forget_call())
        self.assertEqual(told, [0, 0, 1, 0, 1, 0, 0])

    def test_now(self):
        self.assertEqual(self.counted(tick_call(3), tick_call(100001), tick_call(4)), [0, 0, 0, 0, 0, 0, 7])

    def test_asking_twice(self):
        told = run_open(sort_call([1]), counts_call(), flows_call(), rule_call(0), counts_call())
        self.assertEqual(told[1], told[4])

    def test_counts_are_modulo_2_32(self):
        desk = Desk(0, PLACES)
        frames = [read_calls(sort_call([16 * k]))[0] for k in range(5)]
        for frame in frames[:4]:
            answer_at(desk, frame)
        desk.table.frames_known = desk.table.frames_learnt = desk.table.flows_displaced = 4294967295
        self.assertEqual(answer_at(desk, read_calls([14])[0]), [0] + [4294967295] * 3 + [0, 0, 0])
        answer_at(desk, frames[0])
        answer_at(desk, frames[4])
        self.assertEqual(answer_at(desk, read_calls([14])[0]), [0, 0, 0, 0, 0, 0, 0])


class SecondOpen(unittest.TestCase):
    BEFORE = (put_call(0, deed=9), commit_call(), put_call(0), tick_call(12), sort_call([1]), sort_call([1]),
              *[sort_call([16 * k]) for k in range(5)])
    ASKED = (counts_call(), flows_call(), flow_call(0), rule_call(0), try_call([1]), sort_call([1]), flow_call(0),
             tick_call(1), age_call(1), forget_call())

    def test_all_is_as_at_first(self):
        told = run_open(*self.BEFORE, open_call(), *self.ASKED)
        self.assertEqual(told[len(self.BEFORE):], run(open_call(), *self.ASKED))
        self.assertEqual(told[-10:-6], [[0] * 7, [0] * 17, [-6], [-6]])

    def test_with_another_seed_and_other_places(self):
        other = open_call(77, [9, 8, 7, 6] * 4)
        told = run_open(*self.BEFORE, other, *self.ASKED)
        self.assertEqual(told[len(self.BEFORE):], run(other, *self.ASKED))

    def test_a_refused_open_leaves_all(self):
        for refused in (open_call(-1), open_call(4294967296), open_call(0, [256] * 16)):
            told = run_open(*self.BEFORE, refused, *self.ASKED)
            without = run_open(*self.BEFORE, *self.ASKED)
            self.assertEqual(told[len(self.BEFORE)], [-2])
            self.assertEqual(told[len(self.BEFORE) + 1:], without[len(self.BEFORE):])


if __name__ == "__main__":
    unittest.main()
