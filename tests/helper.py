"""What the tests share: calls by their names, and a slow count of all pairs to compare with."""

from fractions import Fraction
from itertools import product
from math import lcm

from evenshare import desk

DONE = [0]
WRONG = [-1]
NO_FIT = [-2]
FARTHEST = 2147483647
LEAST = -9223372036854775808
MOST = 9223372036854775807
TOP = 4294967295


def weights(h, *pairs):
    row = [number for pair in pairs for number in pair]
    return [0, h, len(row)] + row


def even(h, lo, hi):
    return [1, h, lo, hi]


def add(h, f, g):
    return [2, h, f, g]


def great(h, f, g):
    return [3, h, f, g]


def less(h, f, g):
    return [4, h, f, g]


def times(h, f, n):
    return [5, h, f, n]


def mix(h, f, g, a, b):
    return [6, h, f, g, a, b]


def answers_to(*calls):
    """What desk.answers gives for these calls, an answer each."""
    told = desk.answers([number for call in calls for number in call])
    split = []
    while told:
        split.append(told[1:1 + told[0]])
        told = told[1 + told[0]:]
    return split


def last_answer(*calls):
    return answers_to(*calls)[-1]


def kept_after(*calls):
    """What is kept, place by place, as lists of (value, weight), when these calls are made."""
    kept = {}
    for call in calls:
        desk.answer_to(kept, call)
    return {place: list(kept[place].items()) for place in kept}


def form_at(place, *calls):
    return kept_after(*calls)[place]


class Refused(Exception):
    pass


class Counted:
    """The document's words taken one by one: shares as fractions, every pair counted, no short cut.

    Only for small distributions.
    """

    def __init__(self):
        self.shares = {}

    def form(self, place):
        shares = self.shares[place]
        whole = lcm(*[share.denominator for share in shares.values()])
        return [(value, int(shares[value] * whole)) for value in sorted(shares)]

    def forms(self):
        return {place: self.form(place) for place in self.shares}

    def answer(self, call):
        try:
            self.refuse_wrong(call)
        except Refused:
            return WRONG
        before = dict(self.shares)
        self.shares[call[1]] = self.result(call)
        if not self.fits(call[1]):
            self.shares = before
            return NO_FIT
        return DONE

    def fits(self, place):
        form = self.form(place)
        whole = sum(weight for value, weight in form)
        return len(form) <= 256 and all(abs(value) <= FARTHEST for value, weight in form) and whole <= 2 ** 40

    def refuse_wrong(self, call):
        number = call[0]
        wrong = call[1] > 15
        if number == 0:
            wrong = wrong or call[2] > 512 or not any(call[4::2])
        if number == 1:
            wrong = wrong or call[3] < call[2]
        if number in (2, 3, 4, 6):
            wrong = wrong or call[2] not in self.shares or call[3] not in self.shares
        if number == 5:
            wrong = wrong or call[2] not in self.shares or call[3] > 100
        if number == 6:
            wrong = wrong or not 1 <= call[4] <= 65535 or not 1 <= call[5] <= 65535
        if wrong:
            raise Refused()

    def result(self, call):
        number = call[0]
        if number == 0:
            return self.told(call[3:])
        if number == 1:
            return {value: Fraction(1, call[3] - call[2] + 1) for value in range(call[2], call[3] + 1)}
        f = self.shares[call[2]]
        if number == 5:
            return self.repeated(f, call[3])
        g = self.shares[call[3]]
        if number == 6:
            chance = Fraction(call[4], call[4] + call[5])
            mixed = {value: share * chance for value, share in f.items()}
            for value, share in g.items():
                mixed[value] = mixed.get(value, 0) + share * (1 - chance)
            return mixed
        return self.paired(f, g, {2: lambda x, y: x + y, 3: max, 4: min}[number])

    def told(self, row):
        whole = sum(row[1::2])
        shares = {}
        for value, weight in zip(row[::2], row[1::2]):
            if weight:
                shares[value] = shares.get(value, 0) + Fraction(weight, whole)
        return shares

    def paired(self, f, g, outcome):
        shares = {}
        for x, y in product(f, g):
            value = outcome(x, y)
            shares[value] = shares.get(value, 0) + f[x] * g[y]
        return shares

    def repeated(self, f, n):
        shares = {0: Fraction(1)}
        for done in range(n):
            shares = self.paired(shares, f, lambda x, y: x + y)
        return shares
