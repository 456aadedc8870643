"""Hues round a ratio, and the least worth of all falls of a web, with the paper which shows it."""

from rillturn.kin import closed_rings
from rillturn.pointings import is_pointing
from rillturn.seats import seated
from rillturn.webs import is_ring, is_whole
from rillturn.worths import bare_worth, is_worth, ring_worth, weighed


def is_round_hues(web, top, bottom, thing):
    """Whether a thing is hues of a web round (top, bottom)."""
    if not is_whole(top) or not is_whole(bottom) or not 1 <= bottom <= top:
        return False
    if not isinstance(thing, tuple) or len(thing) != web[0]:
        return False
    if not all([is_whole(number) and 0 <= number < top for number in thing]):
        return False
    return all([bottom <= abs(thing[a] - thing[b]) <= top - bottom for a, b in web[1]])


def is_less(one, other):
    """Whether one worth is less than another one."""
    return one[0] * other[1] < other[0] * one[1]


def least_of(shown):
    """Of tuples that begin with a worth the first one whose worth is the least."""
    least = shown[0]
    for other in shown:
        if is_less(other[0], least[0]):
            least = other
    return least


def least_worth(web):
    """The least worth of all falls, hues round it, and a ring for each fall that is seated at 0: Apart, TooMany."""
    falls = seated(web, 0)
    # Kin have the same worth, so those that are seated at one place stand for all falls.
    shown = [weighed(web, fall) for fall in falls]
    found, ring, numbers = least_of(shown)
    hues = tuple([number % found[0] for number in numbers])
    return (found, hues, [(fall, each[1]) for fall, each in zip(falls, shown)])


def is_pair_for(web, fall, thing):
    """Whether a thing is a pair of a fall and of something."""
    if not isinstance(thing, tuple) or len(thing) != 2:
        return False
    return is_pointing(web, thing[0]) and thing[0] == fall


def is_paper(web, worth, falls, thing):
    """Whether a thing has a pair for each of some falls, in order, that shows a worth at least as great."""
    if not isinstance(thing, (list, tuple)) or len(thing) != len(falls):
        return False
    if not all([is_pair_for(web, fall, pair) for fall, pair in zip(falls, thing)]):
        return False
    if not closed_rings(web):
        return worth == bare_worth(web) and all([ring is None for fall, ring in thing])
    if not all([is_ring(web, ring) for fall, ring in thing]):
        return False
    return not any([is_less(ring_worth(web, fall, ring), worth) for fall, ring in thing])


def least_right(web, worth, hues, paper):
    """Whether hues and a paper show the least worth of all falls of a web: Apart, TooMany."""
    falls = seated(web, 0)
    if not is_worth(worth) or not is_round_hues(web, worth[0], worth[1], hues):
        return False
    return is_paper(web, worth, falls, paper)
