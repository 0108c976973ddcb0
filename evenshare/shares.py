"""Distributions as dicts of values and weights.

A distribution that is handed in as f or g is in its lowest form, values rising, and fits. What a
function that ends in `_of` gives back is a new one in its lowest form, values rising; it raises
NoFit where that form doesn't fit.
"""

MOST_VALUES = 256
FARTHEST_VALUE = 2147483647
MOST_WEIGHT = 1099511627776


class NoFit(ValueError):
    """A result doesn't fit."""


class NoneThere(ValueError):
    """A distribution has no value where one is needed."""


def common_divisor(a, b):
    while b != 0:
        rest = a % b
        a = b
        b = rest
    return a


def lowest(weights):
    """The lowest form of weights, of which one at least is above 0."""
    divisor = 0
    for weight in weights.values():
        divisor = common_divisor(divisor, weight)
    form = {}
    for value in sorted(weights):
        if weights[value] > 0:
            form[value] = weights[value] // divisor
    return form


def fits(form):
    if len(form) > MOST_VALUES:
        return False
    if min(form) < -FARTHEST_VALUE or max(form) > FARTHEST_VALUE:
        return False
    return sum(form.values()) <= MOST_WEIGHT


def fitting_of(weights):
    form = lowest(weights)
    if not fits(form):
        raise NoFit("the lowest form doesn't fit")
    return form


def weights_of_pairs(pairs):
    """The weights that a row of value, weight, value, weight tells; they may all be 0."""
    weights = {}
    for k in range(0, len(pairs), 2):
        value = pairs[k]
        weights[value] = weights.get(value, 0) + pairs[k + 1]
    return weights


def even_of(lo, hi):
    # lo and hi may be 2^64 apart: too many values to write down before they are refused.
    if hi - lo >= MOST_VALUES:
        raise NoFit("too many values")
    weights = {}
    for value in range(lo, hi + 1):
        weights[value] = 1
    return fitting_of(weights)


def sum_of(f, g):
    weights = {}
    for left, left_weight in f.items():
        for right, right_weight in g.items():
            value = left + right
            weights[value] = weights.get(value, 0) + left_weight * right_weight
        # Every product is above 0 and none is taken away, so too many values stay too many.
        if len(weights) > MOST_VALUES:
            raise NoFit("too many values")
    return fitting_of(weights)


def later_of(f, g, order):
    """Of the outcomes of f and g the one that comes later in order, which has every value of both once."""
    weights = {}
    f_before = 0
    g_before = 0
    for value in order:
        f_up_to = f_before + f.get(value, 0)
        g_up_to = g_before + g.get(value, 0)
        # Pairs with neither outcome behind value, less those with both ahead of it.
        weights[value] = f_up_to * g_up_to - f_before * g_before
        f_before = f_up_to
        g_before = g_up_to
    return fitting_of(weights)


def greater_of(f, g):
    return later_of(f, g, sorted(set(f) | set(g)))


def lesser_of(f, g):
    rising = sorted(set(f) | set(g))
    return later_of(f, g, list(reversed(rising)))


def times_of(f, n):
    total = {0: 1}
    for done in range(n):
        # A step that doesn't fit refuses the whole rightly: with each further outcome of f there
        # are no fewer values, what is too far out lies no nearer, and the whole weight gets no
        # smaller, since a sum of two lowest forms has no common divisor (Gauss's lemma).
        total = sum_of(total, f)
    return total


def mix_of(f, g, a, b):
    # Each is weighed by the other's whole weight, so that both have the same one ahead of a and b.
    f_factor = a * sum(g.values())
    g_factor = b * sum(f.values())
    weights = {}
    for value, weight in f.items():
        weights[value] = f_factor * weight
    for value, weight in g.items():
        weights[value] = weights.get(value, 0) + g_factor * weight
    return fitting_of(weights)


def part_between(f, lo, hi):
    """The values of f from lo to hi with the weights they have in f; perhaps none."""
    part = {}
    for value, weight in f.items():
        if lo <= value <= hi:
            part[value] = weight
    return part


def given_of(f, lo, hi):
    part = part_between(f, lo, hi)
    if len(part) == 0:
        raise NoneThere("no value from lo to hi")
    return fitting_of(part)
