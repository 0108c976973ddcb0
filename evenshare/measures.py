"""What is told of distributions; f and g are as in evenshare.shares.

A fraction is a list of numerator and denominator in lowest terms.
"""

from evenshare.shares import NoFit
from evenshare.shares import common_divisor
from evenshare.shares import part_between

# 2^63: numerators and denominators of this size and above are refused.
TOO_GREAT = 9223372036854775808


def fraction(numerator, denominator):
    """numerator over denominator, which is above 0; only what it is in lowest terms must fit."""
    divisor = common_divisor(abs(numerator), denominator)
    top = numerator // divisor
    bottom = denominator // divisor
    if abs(top) >= TOO_GREAT or bottom >= TOO_GREAT:
        raise NoFit("a fraction too great to tell")
    return [top, bottom]


def whole_weight(f):
    return sum(f.values())


def chance_between(f, lo, hi):
    return fraction(whole_weight(part_between(f, lo, hi)), whole_weight(f))


def chance_to_beat(f, g):
    pairs = 0
    g_below = 0
    for value in sorted(set(f) | set(g)):
        pairs = pairs + f.get(value, 0) * g_below
        g_below = g_below + g.get(value, 0)
    return fraction(pairs, whole_weight(f) * whole_weight(g))


def mean(f):
    total = 0
    for value, weight in f.items():
        total = total + value * weight
    return fraction(total, whole_weight(f))


def quantile(f, a, b):
    """The least value of f up to which the share is at least a / b, which is above 0 and at most 1."""
    rising = list(f)
    needed = a * whole_weight(f)
    k = 0
    up_to = f[rising[0]]
    # Ends at the last value: up_to is the whole weight there, and b is at least a.
    while up_to * b < needed:
        k = k + 1
        up_to = up_to + f[rising[k]]
    return rising[k]


def form_row(f):
    row = []
    for value, weight in f.items():
        row.append(value)
        row.append(weight)
    return row
