"""Rules, which of them counts for a key, and the changes of them that wait."""

MOST_RULES = 32
DEED_WITHOUT_RULE = 0


class Rule:
    """What is done with the keys that fit; of its value only what lies under the mask is kept."""

    def __init__(self, mask, value, word, lo, hi, deed):
        self.mask = mask
        self.value = under_mask(value, mask)
        self.word = word
        self.lo = lo
        self.hi = hi
        self.deed = deed


def under_mask(octets, mask):
    return [octet & bits for octet, bits in zip(octets, mask)]


def word_of(key, word):
    return 256 * key[word] + key[word + 1]


def fits(rule, key):
    if under_mask(key, rule.mask) != rule.value:
        return False
    return rule.lo <= word_of(key, rule.word) <= rule.hi


def deed_by_rules(rules, key):
    """The deed of the first rule that fits."""
    for rule in rules:
        if fits(rule, key):
            return rule.deed
    return DEED_WITHOUT_RULE


class PutChange:
    """A rule is put at a place, and those from there on go one further."""

    def __init__(self, place, rule):
        self.place = place
        self.rule = rule

    def can_be_made(self, rules):
        return self.place <= len(rules) and len(rules) < MOST_RULES

    def make(self, rules):
        rules.insert(self.place, self.rule)


class OutChange:
    """The rule at a place is taken out."""

    def __init__(self, place):
        self.place = place

    def can_be_made(self, rules):
        return self.place < len(rules)

    def make(self, rules):
        rules.pop(self.place)


class SwapChange:
    """The rules at two places are exchanged."""

    def __init__(self, place, other):
        self.place = place
        self.other = other

    def can_be_made(self, rules):
        return self.place < len(rules) and self.other < len(rules)

    def make(self, rules):
        moved = rules[self.place]
        rules[self.place] = rules[self.other]
        rules[self.other] = moved
