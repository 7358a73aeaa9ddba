"""When a rule fits, and which rule counts."""

import unittest

from tests.lines import commit_call, octets, put_call, run_open, sort_call


def deeds(puts, frames):
    """The deeds of the frames under these rules."""
    told = run_open(*puts, commit_call(), *[sort_call(frame) for frame in frames])
    return [answer[0] for answer in told[len(puts) + 1:]]


class MaskAndValue(unittest.TestCase):
    def test_without_rules_the_deed_is_0(self):
        self.assertEqual(deeds([], [[], [1], [255] * 16]), [0, 0, 0])

    def test_an_empty_mask_fits_every_key(self):
        rule = put_call(0, deed=255, value=[255] * 16)
        self.assertEqual(deeds([rule], [[], [1], [255] * 16]), [255, 255, 255])

    def test_every_byte_counts(self):
        key = list(range(1, 17))
        rule = put_call(0, deed=6, mask=[255] * 16, value=key)
        for place in range(16):
            other = list(key)
            other[place] ^= 128
            self.assertEqual(deeds([rule], [key, other]), [6, 0])

    def test_bits_outside_the_mask_do_not_count(self):
        rule = put_call(0, deed=6, mask=octets(b2=0xF0), value=octets(b2=0x3C, b5=99))
        frames = [[0, 0, 0x30], [0, 0, 0x3F], [0, 0, 0x2C], [0, 0, 0x70], [9, 9, 0x35, 9, 9, 1]]
        self.assertEqual(deeds([rule], frames), [6, 6, 0, 0, 6])

    def test_bits_of_the_mask_that_the_value_lacks_must_be_lacking(self):
        rule = put_call(0, deed=6, mask=octets(b0=3), value=octets(b0=1))
        self.assertEqual(deeds([rule], [[0], [1], [2], [3], [5]]), [0, 6, 0, 0, 6])


class Words(unittest.TestCase):
    def test_word_0(self):
        rule = put_call(0, deed=6, word=0, lo=256 * 3 + 4, hi=256 * 3 + 6)
        frames = [[3, 3], [3, 4], [3, 5], [3, 6], [3, 7], [4, 3], [0, 3, 5]]
        self.assertEqual(deeds([rule], frames), [0, 6, 6, 6, 0, 0, 0])

    def test_word_14_is_the_last_two_bytes(self):
        rule = put_call(0, deed=6, word=14, lo=256 * 3 + 4, hi=256 * 3 + 4)
        frames = [octets(b14=3, b15=4), octets(b13=3, b14=4), octets(b14=4, b15=3), octets(b14=3)]
        self.assertEqual(deeds([rule], frames), [6, 0, 0, 0])

    def test_a_word_in_the_middle_overlaps_its_neighbour(self):
        rule = put_call(0, deed=6, word=7, lo=1, hi=255)
        self.assertEqual(deeds([rule], [octets(b8=1), octets(b8=255), octets(b7=1), octets(b9=1)]), [6, 6, 0, 0])

    def test_lo_equal_to_hi(self):
        rule = put_call(0, deed=6, word=0, lo=500, hi=500)
        self.assertEqual(deeds([rule], [[1, 243], [1, 244], [1, 245]]), [0, 6, 0])

    def test_the_least_and_the_most(self):
        least = put_call(0, deed=6, word=3, lo=0, hi=0)
        most = put_call(1, deed=7, word=3, lo=65535, hi=65535)
        frames = [[], octets(b3=255, b4=255), octets(b4=1), octets(b3=255, b4=254)]
        self.assertEqual(deeds([least, most], frames), [6, 7, 0, 0])

    def test_the_word_is_of_the_whole_key_not_under_the_mask(self):
        rule = put_call(0, deed=6, mask=octets(b0=1), value=octets(b0=1), word=0, lo=256 * 5, hi=256 * 5)
        self.assertEqual(deeds([rule], [[5], [1], [4]]), [6, 0, 0])

    def test_both_must_fit(self):
        rule = put_call(0, deed=6, mask=octets(b0=255), value=octets(b0=1), word=4, lo=9, hi=9)
        frames = [octets(b0=1, b5=9), octets(b0=2, b5=9), octets(b0=1, b5=8)]
        self.assertEqual(deeds([rule], frames), [6, 0, 0])


class Order(unittest.TestCase):
    def test_the_first_that_fits_counts(self):
        one = put_call(0, deed=1, mask=octets(b0=255), value=octets(b0=1))
        low = put_call(1, deed=2, word=0, lo=0, hi=1023)
        all_keys = put_call(2, deed=3)
        self.assertEqual(deeds([one, low, all_keys], [[1], [2], [9]]), [1, 2, 3])

    def test_a_first_rule_with_deed_0_counts_too(self):
        none = put_call(0, deed=0, mask=octets(b0=255), value=octets(b0=1))
        self.assertEqual(deeds([none, put_call(1, deed=3)], [[1], [2]]), [0, 3])

    def test_the_last_of_32_rules_counts(self):
        rules = [put_call(k, deed=100 + k, mask=octets(b0=255), value=octets(b0=k)) for k in range(32)]
        told = run_open(*rules[:16], commit_call(), *rules[16:], commit_call(),
                        *[sort_call([k]) for k in (0, 15, 16, 31, 32)])
        self.assertEqual(told[16], [16])
        self.assertEqual(told[33:], [[32], [100, 1], [115, 1], [116, 1], [131, 1], [0, 1]])


if __name__ == "__main__":
    unittest.main()
