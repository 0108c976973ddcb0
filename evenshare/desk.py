"""The calls on one object, read from one list of whole numbers, and their answers."""

from evenshare.shares import NoFit
from evenshare.shares import even_of
from evenshare.shares import fitting_of
from evenshare.shares import greater_of
from evenshare.shares import lesser_of
from evenshare.shares import mix_of
from evenshare.shares import sum_of
from evenshare.shares import times_of
from evenshare.shares import weights_of_pairs

PLACES = 16
MOST_PAIRS = 256
MOST_TIMES = 100
MOST_PARTS = 65535

DONE = 0
WRONG = -1
NO_FIT = -2

WEIGHTS = 0
# How many numbers a call has with its own number, but for the pairs of weights.
LENGTHS = {0: 3, 1: 4, 2: 4, 3: 4, 4: 4, 5: 4, 6: 6}


class Wrong(ValueError):
    """A call that is refused with -1."""


def kept_at(kept, place):
    # Nothing is ever kept above the last place, so this refuses places out of range too.
    if place not in kept:
        raise Wrong("nothing kept there")
    return kept[place]


def make_weights(kept, call):
    pairs = call[3:]
    if len(pairs) > 2 * MOST_PAIRS:
        raise Wrong("too many pairs")
    told = weights_of_pairs(pairs)
    if sum(told.values()) == 0:
        raise Wrong("no weight above 0")
    return fitting_of(told)


def make_even(kept, call):
    lo = call[2]
    hi = call[3]
    if hi < lo:
        raise Wrong("hi is below lo")
    return even_of(lo, hi)


def make_add(kept, call):
    return sum_of(kept_at(kept, call[2]), kept_at(kept, call[3]))


def make_great(kept, call):
    return greater_of(kept_at(kept, call[2]), kept_at(kept, call[3]))


def make_less(kept, call):
    return lesser_of(kept_at(kept, call[2]), kept_at(kept, call[3]))


def make_times(kept, call):
    f = kept_at(kept, call[2])
    n = call[3]
    if n > MOST_TIMES:
        raise Wrong("too many times")
    return times_of(f, n)


def make_mix(kept, call):
    f = kept_at(kept, call[2])
    g = kept_at(kept, call[3])
    a = call[4]
    b = call[5]
    if a < 1 or a > MOST_PARTS or b < 1 or b > MOST_PARTS:
        raise Wrong("parts out of range")
    return mix_of(f, g, a, b)


MAKERS = {
    0: make_weights,
    1: make_even,
    2: make_add,
    3: make_great,
    4: make_less,
    5: make_times,
    6: make_mix,
}


def made_by(kept, call):
    """The distribution that call asks for; kept is only read."""
    if call[1] >= PLACES:
        raise Wrong("no such place")
    maker = MAKERS[call[0]]
    return maker(kept, call)


def answer_to(kept, call):
    """The numbers answered to one call; kept changes only if it isn't refused."""
    try:
        made = made_by(kept, call)
    except Wrong:
        return [WRONG]
    except NoFit:
        return [NO_FIT]
    kept[call[1]] = made
    return [DONE]


def call_at(calls, start):
    """A copy of the one call that begins at start."""
    length = LENGTHS[calls[start]]
    if calls[start] == WEIGHTS:
        length = length + calls[start + 2]
    return calls[start:start + length]


def answers(calls):
    kept = {}
    told = []
    start = 0
    while start < len(calls):
        call = call_at(calls, start)
        answer = answer_to(kept, call)
        told.append(len(answer))
        told.extend(answer)
        start = start + len(call)
    return told
