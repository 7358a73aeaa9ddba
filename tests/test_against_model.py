"""Many lists of calls, made up by a fixed rule, answered as the plain model answers them."""

import random
import unittest

from flowrules.desk import answers
from tests.lines import (age_call, apart, commit_call, counts_call, flow_call, flows_call, forget_call, joined,
                         open_call, out_call, put_call, rule_call, sort_call, swap_call, tick_call, try_call)
from tests.model import Model

LISTS = 1500
ODD = (-2147483648, -1, 32, 256, 257, 65536, 2147483647)
FAR = (-2147483648, -1, 0, 100000, 100001, 2147483647)


class Maker:
    def __init__(self, number):
        self.chance = random.Random(number)

    def now_and_then(self, usual, odd):
        return self.chance.choice(odd) if self.chance.random() < 0.03 else usual

    def octets(self):
        """Few different bytes, so that rules fit and flows come again."""
        return [self.chance.choice((0, 0, 0, 1, 16, 255)) if self.chance.random() < 0.2 else 0 for k in range(16)]

    def frame(self):
        size = self.chance.choice((0, 1, 2, 3, 15, 16, 17, 255, 256))
        return [self.chance.choice((0, 0, 0, 16, 32, 48, 1)) if k < 3 or k == 255 else 0 for k in range(size)]

    def place(self):
        return self.now_and_then(self.chance.choice((0, 0, 0, 1, 1, 2, 3, 5)), ODD)

    def open(self):
        seed = self.chance.choice((0, 1, 4294967295, self.chance.randrange(4294967296)))
        places = [self.chance.choice((0, 1, 2, 3, 254, 255)) for k in range(16)]
        return ("open", seed, places), open_call(seed, places)

    def put(self):
        place, word = self.place(), self.now_and_then(self.chance.choice((0, 1, 7, 13, 14)), ODD)
        lo = self.now_and_then(self.chance.choice((0, 0, 0, 1, 16, 255, 256)), ODD)
        hi = self.now_and_then(self.chance.choice((65535, 65535, 4096, 256, 16)), ODD)
        deed = self.now_and_then(self.chance.randrange(256), ODD)
        mask, value = self.octets(), self.octets()
        return (("put", place, word, lo, hi, deed, mask, value),
                put_call(place, deed=deed, word=word, lo=lo, hi=hi, mask=mask, value=value))

    def out(self):
        place = self.place()
        return ("out", place), out_call(place)

    def swap(self):
        place, other = self.place(), self.place()
        return ("swap", place, other), swap_call(place, other)

    def commit(self):
        return ("commit",), commit_call()

    def forget(self):
        return ("forget",), forget_call()

    def sized(self, name, build):
        if self.chance.random() < 0.03:
            n = self.chance.choice((-1, 257, -2147483648, 2147483647))
            return (name, n, []), build([], n=n)
        frame = self.frame()
        return (name, len(frame), frame), build(frame)

    def sort(self):
        return self.sized("sort", sort_call)

    def attempt(self):
        return self.sized("attempt", try_call)

    def ticks(self):
        return self.now_and_then(self.chance.choice((1, 1, 2, 3, 5, 9)), FAR)

    def tick(self):
        n = self.ticks()
        return ("tick", n), tick_call(n)

    def age(self):
        n = self.ticks()
        return ("age", n), age_call(n)

    def flow(self):
        i = self.now_and_then(self.chance.choice((0, 0, 1, 2, 3, 4, 5, 8, 13, 63)), ODD + (64,))
        return ("flow", i), flow_call(i)

    def flows_of_rows(self):
        return ("flows_of_rows",), flows_call()

    def rule(self):
        place = self.now_and_then(self.chance.choice((0, 0, 1, 2, 3, 31)), ODD)
        return ("rule", place), rule_call(place)

    def counts(self):
        return ("counts",), counts_call()

    def line(self):
        names = ["put"] * 10 + ["out", "swap", "swap"] + ["commit"] * self.chance.choice((1, 3)) + ["sort"] * 10
        names = names + (["tick"] * 4 + ["age", "attempt", "flow", "flow", "flows_of_rows", "rule", "counts"]) \
            * self.chance.choice((0, 1, 1, 2))
        if self.chance.random() < 0.3:
            names = names + ["forget", "open"]
        first = [] if self.chance.random() < 0.05 else ["open"]
        picked = first + [self.chance.choice(names) for k in range(self.chance.randrange(1, 60))]
        return [getattr(self, name)() for name in picked]

    def crowded_line(self):
        """Rows that fill up and empty while time goes on, and all flows told at the end."""
        names = ["tick"] * 2 + ["crowd"] * 12 + ["age", "counts"]
        picked = ["open"] + [self.chance.choice(names) for k in range(46)] + ["flows_of_rows", "counts"]
        flows = [(("flow", i), flow_call(i)) for i in range(11)]
        return [getattr(self, name)() for name in picked] + flows

    def crowd(self):
        frame = [self.chance.choice((0, 16, 32, 48)) for k in range(4)] + [0] * self.chance.choice((0, 9, 252))
        return ("sort", len(frame), frame), sort_call(frame)


def model_answers(calls):
    model = Model()
    return [getattr(model, call[0])(*call[1:]) for call in calls]


def lines():
    return [Maker(number).line() if number % 5 else Maker(number).crowded_line() for number in range(LISTS)]


class AgainstModel(unittest.TestCase):
    def test_made_up_lists(self):
        for number, line in enumerate(lines()):
            handed_in = joined([numbers for call, numbers in line])
            before = list(handed_in)
            expected = model_answers([call for call, numbers in line])
            self.assertEqual(apart(answers(handed_in)), expected, f"list {number}")
            self.assertEqual(handed_in, before, f"list {number}")
            self.assertLessEqual(len(line), 60)

    def test_the_lists_reach_what_they_are_to_reach(self):
        seen = {}
        for line in lines():
            calls = [call for call, numbers in line]
            for call, answer in zip(calls, model_answers(calls)):
                told = (call[0], answer[-1]) if call[0] == "sort" or answer[0] < 0 else (call[0], "taken")
                seen[told] = seen.get(told, 0) + 1
                if call[0] == "age" and answer[0] > 0:
                    seen["flows went by age"] = True
                if call[0] == "counts" and answer[3:4] > [0]:
                    seen["flows went for others"] = True
        for name in ("sort", "attempt", "tick", "age", "flow", "flows_of_rows", "rule", "counts", "put", "out", "swap",
                     "commit", "forget"):
            self.assertGreater(seen.get((name, -7), 0), 0, name)
        for told in (("sort", 0), ("sort", 1), ("sort", 2), ("sort", -2), ("put", -2), ("put", -5), ("put", "taken"),
                     ("commit", "taken"), ("commit", -100), ("commit", -101), ("commit", -105), ("swap", -2),
                     ("out", -5), ("forget", "taken"), ("attempt", "taken"), ("attempt", -2), ("tick", "taken"),
                     ("tick", -2), ("age", "taken"), ("age", -2), ("flow", "taken"), ("flow", -2), ("flow", -6),
                     ("flows_of_rows", "taken"), ("rule", "taken"), ("rule", -2), ("rule", -6), ("counts", "taken")):
            self.assertGreater(seen.get(told, 0), 0, told)
        self.assertTrue(seen.get("flows went by age") and seen.get("flows went for others"))


if __name__ == "__main__":
    unittest.main()
