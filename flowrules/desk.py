"""The desk: it takes calls, and answers them one behind another."""

from flowrules.reading import read_calls
from flowrules.rules import MOST_RULES, OutChange, PutChange, Rule, SwapChange, deed_by_rules
from flowrules.table import Table

OPENING = 1
KEY_SIZE = 16
MOST_SEED = 4294967295
MOST_WORD = 14
MOST_WORD_VALUE = 65535
MOST_OCTET = 255
MOST_FRAME = 256
MOST_WAITING = 16
MOST_TICKS = 100000
MOST_NOW = 1073741824
MOST_FLOWS = 64

NOT_AS_TOLD = -2
TOO_MANY_WAIT = -5
NONE_THERE = -6
NO_DESK = -7
CHANGE_FAILED = -100


class Desk:
    """All that lasts from call to call."""

    def __init__(self, seed, places):
        self.places = places
        self.rules = []
        self.waiting = []
        self.table = Table(seed)
        self.now = 0


def is_within(number, lowest, highest):
    return lowest <= number <= highest


def are_octets(row, how_many):
    return len(row) == how_many and all([is_within(octet, 0, MOST_OCTET) for octet in row])


def is_place(number):
    return is_within(number, 0, MOST_RULES - 1)


def is_opening_as_told(call):
    return is_within(call.numbers[0], 0, MOST_SEED) and are_octets(call.rows[0], KEY_SIZE)


def is_put_as_told(call):
    place = call.numbers[0]
    word = call.numbers[1]
    lo = call.numbers[2]
    hi = call.numbers[3]
    deed = call.numbers[4]
    if not is_place(place) or not is_within(word, 0, MOST_WORD):
        return False
    if lo < 0 or hi > MOST_WORD_VALUE or lo > hi:
        return False
    if not is_within(deed, 0, MOST_OCTET):
        return False
    return are_octets(call.rows[0], KEY_SIZE) and are_octets(call.rows[1], KEY_SIZE)


def is_frame_as_told(call):
    size = call.numbers[0]
    return is_within(size, 0, MOST_FRAME) and are_octets(call.rows[0], size)


def are_ticks(number):
    return is_within(number, 1, MOST_TICKS)


def key_of(frame, places):
    return [frame[place] if place < len(frame) else 0 for place in places]


def let_wait(desk, change):
    if len(desk.waiting) == MOST_WAITING:
        return [TOO_MANY_WAIT]
    desk.waiting.append(change)
    return [len(desk.waiting)]


def put(desk, call):
    if not is_put_as_told(call):
        return [NOT_AS_TOLD]
    numbers = call.numbers
    rule = Rule(call.rows[0], call.rows[1], numbers[1], numbers[2], numbers[3], numbers[4])
    return let_wait(desk, PutChange(numbers[0], rule))


def out(desk, call):
    place = call.numbers[0]
    if not is_place(place):
        return [NOT_AS_TOLD]
    return let_wait(desk, OutChange(place))


def swap(desk, call):
    place = call.numbers[0]
    other = call.numbers[1]
    if not is_place(place) or not is_place(other):
        return [NOT_AS_TOLD]
    return let_wait(desk, SwapChange(place, other))


def commit(desk, call):
    waiting = desk.waiting
    desk.waiting = []
    # The changes are tried on a copy, so that none is made when one can't be.
    rules = list(desk.rules)
    for number, change in enumerate(waiting):
        if not change.can_be_made(rules):
            return [CHANGE_FAILED - number]
        change.make(rules)
    desk.rules = rules
    desk.table.follow_rules(rules)
    return [len(rules)]


def forget(desk, call):
    how_many = len(desk.waiting)
    desk.waiting = []
    return [how_many]


def sort_call(desk, call):
    if not is_frame_as_told(call):
        return [NOT_AS_TOLD]
    key = key_of(call.rows[0], desk.places)
    return desk.table.sort_frame(desk.rules, key, call.numbers[0], desk.now)


def try_call(desk, call):
    if not is_frame_as_told(call):
        return [NOT_AS_TOLD]
    return [deed_by_rules(desk.rules, key_of(call.rows[0], desk.places))]


def tick(desk, call):
    ticks = call.numbers[0]
    if not are_ticks(ticks) or desk.now + ticks > MOST_NOW:
        return [NOT_AS_TOLD]
    desk.now += ticks
    return [desk.now]


def age(desk, call):
    ticks = call.numbers[0]
    if not are_ticks(ticks):
        return [NOT_AS_TOLD]
    return [desk.table.let_old_go(ticks, desk.now)]


def tell_flow(desk, call):
    number = call.numbers[0]
    if not is_within(number, 0, MOST_FLOWS - 1):
        return [NOT_AS_TOLD]
    flows = desk.table.in_order()
    if number >= len(flows):
        return [NONE_THERE]
    flow = flows[number]
    return [0] + flow.key + [flow.deed, flow.frames, flow.octets, flow.seen]


def tell_flows(desk, call):
    of_rows = [len(row) for row in desk.table.rows]
    return [sum(of_rows)] + of_rows


def tell_rule(desk, call):
    place = call.numbers[0]
    if not is_place(place):
        return [NOT_AS_TOLD]
    if place >= len(desk.rules):
        return [NONE_THERE]
    rule = desk.rules[place]
    return [0] + rule.mask + rule.value + [rule.word, rule.lo, rule.hi, rule.deed]


def tell_counts(desk, call):
    table = desk.table
    of_frames = [table.frames_known, table.frames_learnt, table.flows_displaced]
    return [0] + of_frames + [len(desk.rules), len(desk.waiting), desk.now]


ANSWERING = {
    2: put,
    3: out,
    4: swap,
    5: commit,
    6: forget,
    7: sort_call,
    8: try_call,
    9: tick,
    10: age,
    11: tell_flow,
    12: tell_flows,
    13: tell_rule,
    14: tell_counts,
}


def answer_at(desk, call):
    if desk is None:
        return [NO_DESK]
    answering = ANSWERING[call.number]
    return answering(desk, call)


def answers(calls):
    """Of each call, in order: how many numbers are answered, and these."""
    desk = None
    told = []
    for call in read_calls(calls):
        if call.number != OPENING:
            answer = answer_at(desk, call)
        elif is_opening_as_told(call):
            desk = Desk(call.numbers[0], call.rows[0])
            answer = [0]
        else:
            answer = [NOT_AS_TOLD]
        told.append(len(answer))
        told.extend(answer)
    return told
