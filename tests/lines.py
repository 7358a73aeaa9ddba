"""Builds lists of calls for the tests, and takes the answers apart."""

from flowrules.desk import answers

ANY = [0] * 16
PLACES = list(range(16))


def open_call(seed=0, places=PLACES):
    return [1, seed, len(places)] + list(places)


def put_call(place, deed=1, word=0, lo=0, hi=65535, mask=ANY, value=ANY):
    return [2, place, word, lo, hi, deed, len(mask)] + list(mask) + [len(value)] + list(value)


def out_call(place):
    return [3, place]


def swap_call(place, other):
    return [4, place, other]


def commit_call():
    return [5]


def forget_call():
    return [6]


def sort_call(frame, n=None):
    return [7, len(frame) if n is None else n, len(frame)] + list(frame)


def try_call(frame, n=None):
    return [8, len(frame) if n is None else n, len(frame)] + list(frame)


def tick_call(n):
    return [9, n]


def age_call(n):
    return [10, n]


def flow_call(i):
    return [11, i]


def flows_call():
    return [12]


def rule_call(place):
    return [13, place]


def counts_call():
    return [14]


def octets(**places):
    """Sixteen bytes, 0 but at those told: octets(b3=7) has 7 at 3."""
    row = [0] * 16
    for name, octet in places.items():
        row[int(name[1:])] = octet
    return row


def joined(calls):
    return [number for call in calls for number in call]


def apart(told):
    """The answers one by one; their lengths must come out even."""
    found = []
    at = 0
    while at < len(told):
        end = at + 1 + told[at]
        if end > len(told):
            raise ValueError("an answer is shorter than its length says")
        found.append(told[at + 1:end])
        at = end
    return found


def run(*calls):
    return apart(answers(joined(calls)))


def run_open(*calls):
    """The answers behind an open with seed 0 and places 0 to 15."""
    told = run(open_call(), *calls)
    if told[0] != [0]:
        raise ValueError("open was refused")
    return told[1:]
