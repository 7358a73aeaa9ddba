"""open, and the key that is cut of a frame."""

import unittest

from flowrules.desk import key_of
from tests.lines import commit_call, forget_call, octets, open_call, put_call, run, run_open, sort_call


class Open(unittest.TestCase):
    def test_it_answers_0(self):
        self.assertEqual(run(open_call(12345, list(range(100, 116)))), [[0]])

    def test_there_are_no_rules_flows_or_changes(self):
        self.assertEqual(run_open(commit_call(), forget_call(), sort_call([1])), [[0], [0], [0, 1]])

    def test_a_second_open_begins_anew(self):
        told = run_open(put_call(0, deed=9), commit_call(), sort_call([1]), put_call(0), open_call(),
                        forget_call(), sort_call([1]), commit_call())
        self.assertEqual(told, [[1], [1], [9, 1], [1], [0], [0], [0, 1], [0]])

    def test_a_second_open_has_its_own_places(self):
        rule = put_call(0, deed=9, mask=octets(b0=255), value=octets(b0=7))
        told = run(open_call(), open_call(0, [2] * 16), rule, commit_call(), sort_call([1, 1, 7]), sort_call([7, 1, 1]))
        self.assertEqual(told[-2:], [[9, 1], [0, 1]])


class Keys(unittest.TestCase):
    def test_bytes_are_taken_from_their_places_in_order(self):
        frame = list(range(100, 200))
        places = [9, 0, 99, 5, 5, 1, 2, 3, 4, 6, 7, 8, 10, 11, 12, 13]
        self.assertEqual(key_of(frame, places), [100 + place for place in places])

    def test_a_place_the_frame_does_not_have_gives_0(self):
        self.assertEqual(key_of([5, 6, 7], [0, 2, 3, 255] * 4), [5, 7, 0, 0] * 4)
        self.assertEqual(key_of([], [0] * 16), [0] * 16)

    def test_the_last_place_of_the_longest_frame(self):
        self.assertEqual(key_of([0] * 255 + [9], [255] * 16), [9] * 16)
        self.assertEqual(key_of([0] * 254 + [9], [255, 254] * 8), [0, 9] * 8)

    def test_frames_with_the_same_key_are_one_flow(self):
        told = run(open_call(0, [1] * 16), sort_call([1, 5]), sort_call([2, 5, 9]), sort_call([5, 1]))
        self.assertEqual(told[1:], [[0, 1], [0, 0], [0, 1]])

    def test_a_frame_without_bytes_has_the_key_of_zeros(self):
        told = run_open(sort_call([]), sort_call([0]), sort_call([0] * 256), sort_call([1]))
        self.assertEqual(told, [[0, 1], [0, 0], [0, 0], [0, 1]])

    def test_a_rule_sees_0_where_the_frame_has_no_byte(self):
        rule = put_call(0, deed=3, mask=octets(b15=255), value=octets(b15=0))
        told = run_open(rule, commit_call(), sort_call([1] * 15), sort_call([1] * 16))
        self.assertEqual(told[2:], [[3, 1], [0, 1]])


if __name__ == "__main__":
    unittest.main()
