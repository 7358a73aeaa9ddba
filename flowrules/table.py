"""The table of flows: sixteen rows, each of up to four."""

from flowrules.rules import deed_by_rules

ROWS = 16
MOST_IN_ROW = 4
BEYOND_32_BITS = 4294967296
ROW_START = 0x811C9DC5
ROW_FACTOR = 0x1000193

WAS_THERE = 0
LEARNT = 1
LEARNT_FOR_ANOTHER = 2


class Flow:
    """What the rules said of a key, and what has come of it so far."""

    def __init__(self, key, deed, size, now):
        self.key = key
        self.deed = deed
        self.frames = 1
        self.octets = size
        self.seen = now

    def count_frame(self, size, now):
        self.frames = (self.frames + 1) % BEYOND_32_BITS
        self.octets = (self.octets + size) % BEYOND_32_BITS
        self.seen = now


class Table:
    """The flows, row by row, in the order in which they were learnt, and what sorting came to so far."""

    def __init__(self, seed):
        self.seed = seed
        self.rows = [[] for row in range(ROWS)]
        self.frames_known = 0
        self.frames_learnt = 0
        self.flows_displaced = 0

    def sort_frame(self, rules, key, size, now):
        """The frame's deed, and whether its flow was there or is learnt."""
        row = self.rows[row_number(self.seed, key)]
        flow = flow_of(row, key)
        if flow is None:
            deed = deed_by_rules(rules, key)
            return [deed, self.learn(row, Flow(key, deed, size, now))]
        flow.count_frame(size, now)
        self.frames_known = (self.frames_known + 1) % BEYOND_32_BITS
        return [flow.deed, WAS_THERE]

    def learn(self, row, flow):
        """Puts the flow behind the others of its row; tells whether one went for it."""
        self.frames_learnt = (self.frames_learnt + 1) % BEYOND_32_BITS
        told = LEARNT
        if len(row) == MOST_IN_ROW:
            row.pop(least_lately_seen(row))
            self.flows_displaced = (self.flows_displaced + 1) % BEYOND_32_BITS
            told = LEARNT_FOR_ANOTHER
        row.append(flow)
        return told

    def let_old_go(self, ticks, now):
        """All flows not seen for so many ticks go; how many did."""
        before = len(self.in_order())
        self.rows = [seen_lately(row, ticks, now) for row in self.rows]
        return before - len(self.in_order())

    def in_order(self):
        """All flows, row by row."""
        flows = []
        for row in self.rows:
            flows.extend(row)
        return flows

    def follow_rules(self, rules):
        """Each flow's deed becomes that by the rules as they are."""
        for row in self.rows:
            for flow in row:
                flow.deed = deed_by_rules(rules, flow.key)


def row_number(seed, key):
    number = ROW_START ^ seed
    for octet in key:
        number = ((number ^ octet) * ROW_FACTOR) % BEYOND_32_BITS
    return number % ROWS


def flow_of(row, key):
    for flow in row:
        if flow.key == key:
            return flow
    return None


def least_lately_seen(row):
    """The place in the row of the flow that must go; of several the first."""
    oldest = 0
    for place, flow in enumerate(row):
        if flow.seen < row[oldest].seen:
            oldest = place
    return oldest


def seen_lately(row, ticks, now):
    return [flow for flow in row if now - flow.seen < ticks]
