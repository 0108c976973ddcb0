"""What the tests share: calls by their names, and a slow count of all pairs to compare with."""

from fractions import Fraction
from itertools import product
from math import lcm

from evenshare import desk

DONE = [0]
WRONG = [-1]
NO_FIT = [-2]
NONE_THERE = [-5]
FARTHEST = 2147483647
LEAST = -9223372036854775808
MOST = 9223372036854775807
TOP = 4294967295


def weights(h, *pairs):
    row = [number for pair in pairs for number in pair]
    return [0, h, len(row)] + row


def even(h, lo, hi):
    return [1, h, lo, hi]


def add(h, f, g):
    return [2, h, f, g]


def great(h, f, g):
    return [3, h, f, g]


def less(h, f, g):
    return [4, h, f, g]


def times(h, f, n):
    return [5, h, f, n]


def mix(h, f, g, a, b):
    return [6, h, f, g, a, b]


def given(h, f, lo, hi):
    return [7, h, f, lo, hi]


def chance(f, lo, hi):
    return [8, f, lo, hi]


def beats(f, g):
    return [9, f, g]


def mean(f):
    return [10, f]


def quantile(f, a, b):
    return [11, f, a, b]


def form(f):
    return [12, f]


def flat(calls):
    return [number for call in calls for number in call]


def answers_to(*calls):
    """What desk.answers gives for these calls, an answer each."""
    told = desk.answers(flat(calls))
    split = []
    start = 0
    while start < len(told):
        split.append(told[start + 1:start + 1 + told[start]])
        start += 1 + told[start]
    return split


def last_answer(*calls):
    return answers_to(*calls)[-1]


def told_fraction(*calls):
    """The fraction that the last of these calls answers; it must be in lowest terms."""
    done, numerator, denominator = last_answer(*calls)
    fraction = Fraction(numerator, denominator)
    if done != 0 or (fraction.numerator, fraction.denominator) != (numerator, denominator):
        raise AssertionError(f"{done}, {numerator}, {denominator} is no fraction in lowest terms")
    return fraction


def pairs_of(answer):
    """What a form answers, as a list of (value, weight)."""
    return list(zip(answer[1::2], answer[2::2], strict=True))


def kept_after(*calls):
    """What is kept, place by place, as lists of (value, weight), when these calls are made."""
    told = answers_to(*calls, *[form(place) for place in range(16)])[-16:]
    return {place: pairs_of(told[place]) for place in range(16) if told[place] != WRONG}


def form_at(place, *calls):
    return kept_after(*calls)[place]


def lowest(weights_told):
    """Weights, whole numbers or fractions, as a list of (value, weight) in the lowest form."""
    whole = sum(weights_told.values())
    shares = {value: Fraction(weight) / whole for value, weight in weights_told.items() if weight}
    common = lcm(*[share.denominator for share in shares.values()])
    return [(value, int(shares[value] * common)) for value in sorted(shares)]


def fits(pairs):
    whole = sum(weight for value, weight in pairs)
    return len(pairs) <= 256 and all(abs(value) <= FARTHEST for value, weight in pairs) and whole <= 2 ** 40


def shares_of(pairs):
    whole = sum(weight for value, weight in pairs)
    return {value: Fraction(weight, whole) for value, weight in pairs}


def pairs_counted(f, g, outcome):
    """How many of all pairs of outcomes have each outcome of the two."""
    counts = {}
    for (x, x_weight), (y, y_weight) in product(f, g):
        value = outcome(x, y)
        counts[value] = counts.get(value, 0) + x_weight * y_weight
    return counts


class Counted:
    """The document's words taken one by one: every pair is counted, there is no short cut."""

    # Where in a call f and g stand.
    USED = {0: (), 1: (), 2: (2, 3), 3: (2, 3), 4: (2, 3), 5: (2,), 6: (2, 3), 7: (2,),
            8: (1,), 9: (1, 2), 10: (1,), 11: (1,), 12: (1,)}

    def __init__(self):
        self.kept = {}

    def answer(self, call):
        if self.is_wrong(call):
            return WRONG
        if call[0] > 7:
            return self.told(call, *[self.kept[call[k]] for k in self.USED[call[0]]])
        counts = self.made(call, *[self.kept[call[k]] for k in self.USED[call[0]]])
        if not counts:
            return NONE_THERE
        result = lowest(counts)
        if not fits(result):
            return NO_FIT
        self.kept[call[1]] = result
        return DONE

    def is_wrong(self, call):
        number = call[0]
        return (number <= 7 and call[1] > 15
                or any(call[k] not in self.kept for k in self.USED[number])
                or number == 0 and (call[2] > 512 or not any(call[4::2]))
                or number == 1 and call[3] < call[2]
                or number == 5 and call[3] > 100
                or number == 6 and not (1 <= call[4] <= 65535 and 1 <= call[5] <= 65535)
                or number == 11 and not 1 <= call[2] <= call[3])

    def made(self, call, f=None, g=None):
        number = call[0]
        if number == 0:
            counts = {}
            for value, weight in zip(call[3::2], call[4::2]):
                counts[value] = counts.get(value, 0) + weight
            return counts
        if number == 1:
            return {value: 1 for value in range(call[2], call[3] + 1)}
        if number == 5:
            total = [(0, 1)]
            for done in range(call[3]):
                total = list(pairs_counted(total, f, lambda x, y: x + y).items())
            return dict(total)
        if number == 6:
            of_f = Fraction(call[4], call[4] + call[5])
            f_shares, g_shares = shares_of(f), shares_of(g)
            return {value: of_f * f_shares.get(value, 0) + (1 - of_f) * g_shares.get(value, 0)
                    for value in [*f_shares, *g_shares]}
        if number == 7:
            return {value: weight for value, weight in f if value >= call[3] and value <= call[4]}
        return pairs_counted(f, g, {2: lambda x, y: x + y, 3: max, 4: min}[number])

    def told(self, call, f, g=None):
        number = call[0]
        shares = shares_of(f)
        if number == 11:
            return [0, min(value for value in shares
                           if sum(shares[x] for x in shares if x <= value) >= Fraction(call[2], call[3]))]
        if number == 12:
            return [0] + flat(f)
        if number == 8:
            fraction = Fraction(sum(shares[value] for value in shares if value >= call[2] and value <= call[3]))
        if number == 9:
            counts = pairs_counted(f, g, lambda x, y: x > y)
            fraction = Fraction(counts.get(True, 0), sum(counts.values()))
        if number == 10:
            fraction = sum(value * shares[value] for value in shares)
        if max(abs(fraction.numerator), fraction.denominator) >= 2 ** 63:
            return NO_FIT
        return [0, fraction.numerator, fraction.denominator]
