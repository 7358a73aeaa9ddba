"""A second, plainer making of the calls 1 to 7, to set the program's answers against.

Keys and rules are numbers of 128 bits here, and the flows are one list without rows.
"""

FIRST_BITS = 128


def as_number(row):
    return int.from_bytes(bytes(row), "big")


def row_of(seed, key):
    number = 2166136261 ^ seed
    for octet in key.to_bytes(16, "big"):
        number = (number ^ octet) * 16777619 & 0xFFFFFFFF
    return number & 15


def deed_of(rules, key):
    fitting = [rule["deed"] for rule in rules
               if (key ^ rule["value"]) & rule["mask"] == 0
               and key >> (FIRST_BITS - 16 - 8 * rule["word"]) & 0xFFFF in range(rule["lo"], rule["hi"] + 1)]
    return (fitting + [0])[0]


def with_change(rules, change):
    """The rules with the change made, or None."""
    name, first, second = change
    if name == "put" and first <= len(rules) < 32:
        return rules[:first] + [second] + rules[first:]
    if name == "out" and first < len(rules):
        return rules[:first] + rules[first + 1:]
    if name == "swap" and max(first, second) < len(rules):
        turned = {first: second, second: first}
        return [rules[turned.get(k, k)] for k in range(len(rules))]
    return None


class Model:
    def __init__(self):
        self.there = False

    def open(self, seed, places):
        self.there = True
        self.seed, self.places = seed, places
        self.rules, self.changes, self.flows = [], [], []
        return [0]

    def wait(self, good, change):
        if not self.there:
            return [-7]
        if not good:
            return [-2]
        if len(self.changes) >= 16:
            return [-5]
        self.changes.append(change)
        return [len(self.changes)]

    def put(self, place, word, lo, hi, deed, mask, value):
        good = place in range(32) and word in range(15) and deed in range(256) and 0 <= lo <= hi < 65536
        rule = {"mask": as_number(mask), "value": as_number(value), "word": word, "lo": lo, "hi": hi, "deed": deed}
        return self.wait(good, ("put", place, rule))

    def out(self, place):
        return self.wait(place in range(32), ("out", place, None))

    def swap(self, place, other):
        return self.wait(place in range(32) and other in range(32), ("swap", place, other))

    def commit(self):
        if not self.there:
            return [-7]
        changes, self.changes = self.changes, []
        rules = self.rules
        for k, change in enumerate(changes):
            rules = with_change(rules, change)
            if rules is None:
                return [-100 - k]
        self.rules = rules
        return [len(rules)]

    def forget(self):
        if not self.there:
            return [-7]
        changes, self.changes = self.changes, []
        return [len(changes)]

    def sort(self, n, frame):
        if not self.there:
            return [-7]
        if n not in range(257):
            return [-2]
        long = list(frame) + [0] * 256
        key = as_number([long[place] for place in self.places])
        # The document's own words: learnt or not, the deed is that of the first rule that fits.
        deed = deed_of(self.rules, key)
        if key in self.flows:
            return [deed, 0]
        # Now stays 0 without ticks, so of a full row the first goes.
        row = [other for other in self.flows if row_of(self.seed, other) == row_of(self.seed, key)]
        if len(row) == 4:
            self.flows.remove(row[0])
        self.flows.append(key)
        return [deed, 2 if len(row) == 4 else 1]
