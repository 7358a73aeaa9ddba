"""A second, plainer making of the calls, to set the program's answers against.

Keys and rules are numbers of 128 bits here, and the flows are one list without rows. No flow has a deed of its own:
the document says that learnt or not, the deed is that of the first rule that fits.
"""

FIRST_BITS = 128


def as_number(row):
    return int.from_bytes(bytes(row), "big")


def row_of(seed, key):
    number = 2166136261 ^ seed
    for octet in key.to_bytes(16, "big"):
        number = (number ^ octet) * 16777619 & 0xFFFFFFFF
    return number & 15


def deed_of(rules, key):
    fitting = [rule["deed"] for rule in rules
               if (key ^ rule["value"]) & rule["mask"] == 0
               and key >> (FIRST_BITS - 16 - 8 * rule["word"]) & 0xFFFF in range(rule["lo"], rule["hi"] + 1)]
    return (fitting + [0])[0]


def with_change(rules, change):
    """The rules with the change made, or None."""
    name, first, second = change
    if name == "put" and first <= len(rules) < 32:
        return rules[:first] + [second] + rules[first:]
    if name == "out" and first < len(rules):
        return rules[:first] + rules[first + 1:]
    if name == "swap" and max(first, second) < len(rules):
        turned = {first: second, second: first}
        return [rules[turned.get(k, k)] for k in range(len(rules))]
    return None


class Model:
    def __init__(self):
        self.there = False

    def open(self, seed, places):
        self.there = True
        self.seed, self.places = seed, places
        self.rules, self.changes, self.flows = [], [], []
        self.now, self.sorted_as = 0, [0, 0, 0]
        return [0]

    def wait(self, good, change):
        if not self.there:
            return [-7]
        if not good:
            return [-2]
        if len(self.changes) >= 16:
            return [-5]
        self.changes.append(change)
        return [len(self.changes)]

    def put(self, place, word, lo, hi, deed, mask, value):
        good = place in range(32) and word in range(15) and deed in range(256) and 0 <= lo <= hi < 65536
        rule = {"mask": as_number(mask), "value": as_number(value), "word": word, "lo": lo, "hi": hi, "deed": deed}
        return self.wait(good, ("put", place, rule))

    def out(self, place):
        return self.wait(place in range(32), ("out", place, None))

    def swap(self, place, other):
        return self.wait(place in range(32) and other in range(32), ("swap", place, other))

    def commit(self):
        if not self.there:
            return [-7]
        changes, self.changes = self.changes, []
        rules = self.rules
        for k, change in enumerate(changes):
            rules = with_change(rules, change)
            if rules is None:
                return [-100 - k]
        self.rules = rules
        return [len(rules)]

    def forget(self):
        if not self.there:
            return [-7]
        changes, self.changes = self.changes, []
        return [len(changes)]

    def key(self, frame):
        long = list(frame) + [0] * 256
        return as_number([long[place] for place in self.places])

    def row(self, key):
        return row_of(self.seed, key)

    def sort(self, n, frame):
        if not self.there:
            return [-7]
        if n not in range(257):
            return [-2]
        key = self.key(frame)
        known = [flow for flow in self.flows if flow["key"] == key]
        for flow in known:
            flow.update(frames=flow["frames"] + 1, bytes=flow["bytes"] + n, seen=self.now)
        told = 0 if known else self.learn(key, n)
        self.sorted_as[told] += 1
        return [deed_of(self.rules, key), told]

    def learn(self, key, n):
        row = [flow for flow in self.flows if self.row(flow["key"]) == self.row(key)]
        if len(row) == 4:
            self.flows.remove(sorted(row, key=lambda flow: flow["seen"])[0])
        self.flows.append({"key": key, "frames": 1, "bytes": n, "seen": self.now})
        return 2 if len(row) == 4 else 1

    def attempt(self, n, frame):
        if not self.there:
            return [-7]
        return [deed_of(self.rules, self.key(frame))] if n in range(257) else [-2]

    def tick(self, n):
        if not self.there:
            return [-7]
        if n not in range(1, 100001) or self.now + n > 2 ** 30:
            return [-2]
        self.now += n
        return [self.now]

    def age(self, n):
        if not self.there:
            return [-7]
        if n not in range(1, 100001):
            return [-2]
        old = [flow for flow in self.flows if flow["seen"] + n <= self.now]
        self.flows = [flow for flow in self.flows if flow not in old]
        return [len(old)]

    def flow(self, i):
        if not self.there:
            return [-7]
        if i not in range(64):
            return [-2]
        for flow in sorted(self.flows, key=lambda flow: self.row(flow["key"]))[i:i + 1]:
            return [0, *flow["key"].to_bytes(16, "big"), deed_of(self.rules, flow["key"]), flow["frames"],
                    flow["bytes"], flow["seen"]]
        return [-6]

    def flows_of_rows(self):
        if not self.there:
            return [-7]
        rows = [self.row(flow["key"]) for flow in self.flows]
        return [len(rows)] + [rows.count(number) for number in range(16)]

    def rule(self, place):
        if not self.there:
            return [-7]
        if place not in range(32):
            return [-2]
        for rule in self.rules[place:place + 1]:
            return [0, *rule["mask"].to_bytes(16, "big"), *(rule["mask"] & rule["value"]).to_bytes(16, "big"),
                    rule["word"], rule["lo"], rule["hi"], rule["deed"]]
        return [-6]

    def counts(self):
        if not self.there:
            return [-7]
        there, alone, for_another = self.sorted_as
        return [0, there, alone + for_another, for_another, len(self.rules), len(self.changes), self.now]
