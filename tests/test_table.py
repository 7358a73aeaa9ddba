"""The table: a key's row, what a flow counts, which one goes."""

import unittest

from flowrules.desk import Desk, answer_at
from flowrules.reading import read_calls
from flowrules.rules import Rule
from flowrules.table import Table, row_number
from tests.lines import PLACES, commit_call, octets, open_call, put_call, run, run_open, sort_call


def crowd(count, first=1):
    """Frames whose keys differ in bits that don't reach the row's number: all share a row."""
    return [sort_call([16 * k]) for k in range(first, first + count)]


class RowOfAKey(unittest.TestCase):
    def test_known_sums(self):
        # Well-known sums of the same make: of no bytes, "a" and "foobar".
        self.assertEqual(row_number(0, []), 0x811C9DC5 % 16)
        self.assertEqual(row_number(0, list(b"a")), 0xE40C292C % 16)
        self.assertEqual(row_number(0, list(b"foobar")), 0xBF9CF968 % 16)

    def test_the_seed_is_added_without_carry(self):
        # The start vanishes, and so does the sum of a key of zeros.
        self.assertEqual(row_number(0x811C9DC5, [0] * 16), 0)
        self.assertEqual(row_number(0x811C9DC4, []), 1)
        self.assertEqual(row_number(3, []), 5 ^ 3)
        self.assertEqual(row_number(4294967295, []), 10)

    def test_it_is_the_low_four_bits(self):
        # Of a product modulo 16 only the factors' low four bits matter: 1000193H has 3.
        for seed in (0, 1, 77, 4294967295):
            for k in range(40):
                key = [(k * 37 + place * 91) % 256 for place in range(16)]
                number = 5 ^ (seed % 16)
                for octet in key:
                    number = ((number ^ (octet % 16)) * 3) % 16
                self.assertEqual(row_number(seed, key), number)

    def test_the_order_of_the_bytes_counts(self):
        self.assertNotEqual(row_number(0, octets(b0=1)), row_number(0, octets(b1=1)))

    def test_sixteen_rows_are_all_used(self):
        self.assertEqual({row_number(0, octets(b15=k)) for k in range(16)}, set(range(16)))

    def test_a_flow_lies_in_its_keys_row(self):
        for seed in (0, 9, 4294967295):
            table = Table(seed)
            keys = [octets(b15=k) for k in range(16)]
            for key in keys:
                table.sort_frame([], key, 1, 0)
            for key in keys:
                self.assertEqual([flow.key for flow in table.rows[row_number(seed, key)]], [key])

    def test_the_seed_decides_which_keys_share_a_row(self):
        # Byte 15 undoes what byte 14 did to the row's number under seed 0, and under seed 0 alone.
        number = 5
        for step in range(14):
            number = (number * 3) % 16
        keys = [octets(b14=k, b15=((number ^ k) * 3) % 16) for k in range(5)]
        frames = [sort_call(key) for key in keys]
        self.assertEqual({row_number(0, key) for key in keys}, {0})
        self.assertEqual(run(open_call(0), *frames)[-1], [0, 2])
        self.assertGreater(len({row_number(1, key) for key in keys}), 1)
        self.assertEqual(run(open_call(1), *frames)[-1], [0, 1])


class WhatAFlowCounts(unittest.TestCase):
    def test_a_learnt_flow(self):
        table = Table(0)
        rule = Rule([0] * 16, [0] * 16, 0, 0, 65535, 44)
        self.assertEqual(table.sort_frame([rule], [7] * 16, 100, 5), [44, 1])
        flow = table.rows[row_number(0, [7] * 16)][0]
        self.assertEqual((flow.key, flow.deed, flow.frames, flow.octets, flow.seen), ([7] * 16, 44, 1, 100, 5))

    def test_a_frame_more(self):
        table = Table(0)
        table.sort_frame([], [7] * 16, 100, 5)
        self.assertEqual(table.sort_frame([], [7] * 16, 0, 6), [0, 0])
        self.assertEqual(table.sort_frame([], [7] * 16, 256, 9), [0, 0])
        flow = table.rows[row_number(0, [7] * 16)][0]
        self.assertEqual((flow.frames, flow.octets, flow.seen), (3, 356, 9))

    def test_now_is_the_desks_and_0_at_first(self):
        desk = Desk(0, PLACES)
        call = read_calls(sort_call([]))[0]
        flows = desk.table.rows[row_number(0, [0] * 16)]
        answer_at(desk, call)
        self.assertEqual(flows[0].seen, 0)
        desk.now = 7
        answer_at(desk, call)
        self.assertEqual(flows[0].seen, 7)

    def test_counts_are_modulo_2_32(self):
        table = Table(0)
        table.sort_frame([], [7] * 16, 100, 5)
        flow = table.rows[row_number(0, [7] * 16)][0]
        flow.frames = 4294967295
        flow.octets = 4294967290
        table.sort_frame([], [7] * 16, 10, 5)
        self.assertEqual((flow.frames, flow.octets), (0, 4))


class RowsOfFour(unittest.TestCase):
    def keys(self, table):
        return [flow.key[0] for flow in table.rows[row_number(0, [0] * 16)]]

    def learn(self, table, first, now):
        return table.sort_frame([], octets(b0=first), 1, now)[1]

    def test_four_are_kept(self):
        self.assertEqual(run_open(*crowd(4), *crowd(4)), [[0, 1]] * 4 + [[0, 0]] * 4)

    def test_a_fifth_puts_one_out(self):
        told = run_open(*crowd(5), *crowd(4, first=2))
        self.assertEqual(told, [[0, 1]] * 4 + [[0, 2]] + [[0, 0]] * 4)

    def test_the_one_that_went_is_learnt_anew(self):
        self.assertEqual(run_open(*crowd(5), *crowd(1))[-1], [0, 2])

    def test_of_several_seen_at_the_same_time_the_first_goes(self):
        # The first has come again, but at the same tick as the others.
        told = run_open(*crowd(4), *crowd(1), *crowd(1, first=5), *crowd(3, first=2), *crowd(1))
        self.assertEqual(told[4:], [[0, 0], [0, 2], [0, 0], [0, 0], [0, 0], [0, 2]])

    def test_six_and_more(self):
        told = run_open(*crowd(8), *crowd(4, first=5), *crowd(4))
        self.assertEqual(told, [[0, 1]] * 4 + [[0, 2]] * 4 + [[0, 0]] * 4 + [[0, 2]] * 4)

    def test_other_rows_stay(self):
        other = sort_call([1])
        told = run_open(other, *crowd(6), other)
        self.assertEqual([told[0], told[-1]], [[0, 1], [0, 0]])

    def test_the_fifth_has_the_deed_by_the_rules(self):
        rule = put_call(0, deed=50, mask=octets(b0=255), value=octets(b0=80))
        told = run_open(rule, commit_call(), *crowd(5), *crowd(1, first=5))
        self.assertEqual(told[-2:], [[50, 2], [50, 0]])

    def test_the_one_seen_least_lately_goes(self):
        for oldest in range(4):
            table = Table(0)
            for place in range(4):
                self.learn(table, 16 * place, 3 if place == oldest else 4)
            self.assertEqual(self.learn(table, 64, 9), 2)
            left = [16 * place for place in range(4) if place != oldest]
            self.assertEqual(self.keys(table), left + [64])

    def test_of_several_seen_least_lately_the_first_goes(self):
        table = Table(0)
        for first, now in ((0, 5), (16, 2), (32, 2), (48, 3)):
            self.learn(table, first, now)
        self.learn(table, 64, 6)
        self.assertEqual(self.keys(table), [0, 32, 48, 64])

    def test_a_flow_seen_again_keeps_its_place_and_stays(self):
        table = Table(0)
        for first in (0, 16, 32, 48):
            self.learn(table, first, 1)
        self.assertEqual(self.learn(table, 0, 2), 0)
        self.assertEqual(self.keys(table), [0, 16, 32, 48])
        self.assertEqual(self.learn(table, 64, 2), 2)
        self.assertEqual(self.keys(table), [0, 32, 48, 64])


if __name__ == "__main__":
    unittest.main()
