"""The calls on one object, read from one list of whole numbers, and their answers."""

from evenshare.measures import chance_between
from evenshare.measures import chance_to_beat
from evenshare.measures import form_row
from evenshare.measures import mean
from evenshare.measures import quantile
from evenshare.shares import NoFit
from evenshare.shares import NoneThere
from evenshare.shares import even_of
from evenshare.shares import fitting_of
from evenshare.shares import given_of
from evenshare.shares import greater_of
from evenshare.shares import lesser_of
from evenshare.shares import mix_of
from evenshare.shares import sum_of
from evenshare.shares import times_of
from evenshare.shares import weights_of_pairs

PLACES = 16
MOST_PAIRS = 256
MOST_TIMES = 100
MOST_PARTS = 65535

DONE = 0
WRONG = -1
NO_FIT = -2
NONE_THERE = -5

WEIGHTS = 0
# How many numbers a call has with its own number, but for the pairs of weights.
LENGTHS = {0: 3, 1: 4, 2: 4, 3: 4, 4: 4, 5: 4, 6: 6, 7: 5, 8: 4, 9: 3, 10: 2, 11: 4, 12: 2}


class Wrong(ValueError):
    """A call that is refused with -1."""


def kept_at(kept, place):
    # Nothing is ever kept above the last place, so this refuses places out of range too.
    if place not in kept:
        raise Wrong("nothing kept there")
    return kept[place]


def make_weights(kept, call):
    pairs = call[3:]
    if len(pairs) > 2 * MOST_PAIRS:
        raise Wrong("too many pairs")
    told = weights_of_pairs(pairs)
    if sum(told.values()) == 0:
        raise Wrong("no weight above 0")
    return fitting_of(told)


def make_even(kept, call):
    lo = call[2]
    hi = call[3]
    if hi < lo:
        raise Wrong("hi is below lo")
    return even_of(lo, hi)


def make_add(kept, call):
    return sum_of(kept_at(kept, call[2]), kept_at(kept, call[3]))


def make_great(kept, call):
    return greater_of(kept_at(kept, call[2]), kept_at(kept, call[3]))


def make_less(kept, call):
    return lesser_of(kept_at(kept, call[2]), kept_at(kept, call[3]))


def make_times(kept, call):
    f = kept_at(kept, call[2])
    n = call[3]
    if n > MOST_TIMES:
        raise Wrong("too many times")
    return times_of(f, n)


def make_mix(kept, call):
    f = kept_at(kept, call[2])
    g = kept_at(kept, call[3])
    a = call[4]
    b = call[5]
    if a < 1 or a > MOST_PARTS or b < 1 or b > MOST_PARTS:
        raise Wrong("parts out of range")
    return mix_of(f, g, a, b)


def make_given(kept, call):
    return given_of(kept_at(kept, call[2]), call[3], call[4])


MAKERS = {
    0: make_weights,
    1: make_even,
    2: make_add,
    3: make_great,
    4: make_less,
    5: make_times,
    6: make_mix,
    7: make_given,
}


def tell_chance(kept, call):
    return chance_between(kept_at(kept, call[1]), call[2], call[3])


def tell_beats(kept, call):
    return chance_to_beat(kept_at(kept, call[1]), kept_at(kept, call[2]))


def tell_mean(kept, call):
    return mean(kept_at(kept, call[1]))


def tell_quantile(kept, call):
    f = kept_at(kept, call[1])
    a = call[2]
    b = call[3]
    if a < 1 or a > b:
        raise Wrong("a is not from 1 to b")
    return [quantile(f, a, b)]


def tell_form(kept, call):
    return form_row(kept_at(kept, call[1]))


TELLERS = {
    8: tell_chance,
    9: tell_beats,
    10: tell_mean,
    11: tell_quantile,
    12: tell_form,
}


def made_by(kept, call):
    """The distribution that call asks for; kept is only read."""
    if call[1] >= PLACES:
        raise Wrong("no such place")
    maker = MAKERS[call[0]]
    return maker(kept, call)


def told_by(kept, call):
    """What is answered behind the 0; kept changes only if a call that makes one isn't refused."""
    if call[0] in MAKERS:
        kept[call[1]] = made_by(kept, call)
        return []
    teller = TELLERS[call[0]]
    return teller(kept, call)


def answer_to(kept, call):
    """The numbers answered to one call."""
    try:
        told = told_by(kept, call)
    except Wrong:
        return [WRONG]
    except NoneThere:
        return [NONE_THERE]
    except NoFit:
        return [NO_FIT]
    return [DONE] + told


def call_at(calls, start):
    """A copy of the one call that begins at start."""
    length = LENGTHS[calls[start]]
    if calls[start] == WEIGHTS:
        length = length + calls[start + 2]
    return calls[start:start + length]


def answers(calls):
    kept = {}
    told = []
    start = 0
    while start < len(calls):
        call = call_at(calls, start)
        answer = answer_to(kept, call)
        told.append(len(answer))
        told.extend(answer)
        start = start + len(call)
    return told
