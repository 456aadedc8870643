"""Worths: what all kin share, the ring and the numbers which show it, and the kin with the shortest longest way."""

from rillturn.climbs import climbed
from rillturn.hues import hued
from rillturn.kin import along, closed_rings, kin
from rillturn.pointings import arrows
from rillturn.webs import is_ring, is_whole


def measure(one, other):
    """The greatest number that measures two numbers from 0 on, not both 0."""
    while other > 0:
        one, other = other, one % other
    return one


def ring_worth(web, fall, ring):
    """The worth of a ring by a fall."""
    many = len(ring)
    led = along(web, fall, ring)
    # By a fall no ring is a round, so neither count is 0.
    lesser = min(led, many - led)
    common = measure(many, lesser)
    return (many // common, lesser // common)


def bare_worth(web):
    """The worth of a fall of a web that has no ring."""
    return (2, 1) if web[1] else (1, 1)


def worth_gaps(web, fall, top, bottom):
    """The gaps between numbers that keep to (top, bottom)."""
    led = arrows(web, fall)
    return [(a, b, bottom) for a, b in led] + [(b, a, bottom - top) for a, b in led]


def weighed(web, fall):
    """The worth of a fall, a ring of this worth or None, and numbers that keep to it."""
    rings = closed_rings(web)
    ring = rings[0] if rings else None
    found = bare_worth(web) if ring is None else ring_worth(web, fall, ring)
    numbers, better = climbed(web[0], worth_gaps(web, fall, found[0], found[1]))
    # From (2, 1) on two places alone hinder nothing, so what hinders is a ring, of a worth that is greater.
    while better is not None:
        ring = better
        found = ring_worth(web, fall, ring)
        numbers, better = climbed(web[0], worth_gaps(web, fall, found[0], found[1]))
    return (found, ring, numbers)


def worth(web, fall):
    """The worth of a fall, a ring of this worth (None where the web has none), and numbers that keep to it."""
    return weighed(web, fall)


def is_worth(thing):
    """Whether a thing is a pair of whole numbers, the second one from 1 on, in lowest terms."""
    if not isinstance(thing, tuple) or len(thing) != 2:
        return False
    top, bottom = thing
    return is_whole(top) and is_whole(bottom) and bottom >= 1 and measure(abs(top), bottom) == 1


def keeps(web, fall, top, bottom, numbers):
    """Whether a thing is numbers, one for each place, that keep to (top, bottom)."""
    if not isinstance(numbers, tuple) or len(numbers) != web[0]:
        return False
    if not all([is_whole(number) for number in numbers]):
        return False
    return all([bottom <= numbers[b] - numbers[a] <= top - bottom for a, b in arrows(web, fall)])


def worth_right(web, fall, worth, ring, numbers):
    """Whether a ring, or None, and numbers show the worth of a fall."""
    if not is_worth(worth) or not keeps(web, fall, worth[0], worth[1], numbers):
        return False
    if ring is None:
        return not closed_rings(web) and worth == bare_worth(web)
    return is_ring(web, ring) and worth == ring_worth(web, fall, ring)


def shortest(web, fall):
    """The fewest steps of a longest way among the kin of a fall, such a kin, and a row of springs that leads to it."""
    top, bottom = weighed(web, fall)[0]
    most = (top + bottom - 1) // bottom
    # Rounded up the worth is kept to all the more; read round and round, such numbers are so many hues of a kin.
    numbers = climbed(web[0], worth_gaps(web, fall, most, 1))[0]
    other = hued(web, tuple([number % most for number in numbers]))
    return (most - 1, other, kin(web, fall, other)[1])
