"""Kin: falls that are led to one another by turning springs, or the ring which shows that they are not."""

from rillturn.climbs import climbed
from rillturn.pointings import arrows
from rillturn.springs import springs, turned_about
from rillturn.webs import around, is_place, is_ring, way_between


def along(web, pointing, ring):
    """How many ties of a ring lead from a place of it to the one behind it."""
    led = arrows(web, pointing)
    return len([pair for pair in around(ring) if pair in led])


def closed_rings(web):
    """The list of the rings that ties close with the laid ones, in the ties' order, each from its tie's places on."""
    rings = []
    laid = []
    for a, b in web[1]:
        way = way_between(laid, b, a)
        if way is None:
            laid.append((a, b))
        else:
            rings.append((a,) + tuple(way[:-1]))
    return rings


def mark(web, pointing):
    """The list of how many ties are along the rings that ties close, in order."""
    return [along(web, pointing, ring) for ring in closed_rings(web)]


def turn_gaps(web, one, other):
    """The gaps between how often places are turned on the way from one fall to another one."""
    gaps = []
    for number, (a, b), turned_to in zip(one, arrows(web, one), other):
        # The two places of a tie are turned in turn, beginning with the one that it leaves.
        more = 0 if number == turned_to else 1
        gaps.extend([(b, a, more), (a, b, -more)])
    return gaps


def row_of_turns(web, fall, counts):
    """The list of places that are springs at their turns, each as often as its count says."""
    left = list(counts)
    row = []
    while any(left):
        # No tie leads to a place with more turns left, so a spring is among those with the most.
        place = [spring for spring in springs(web, fall) if left[spring] > 0][0]
        row.append(place)
        left[place] -= 1
        fall = turned_about(web, fall, place)
    return row


def kin(web, one, other):
    """("turns", row), a shortest row of springs from one fall to another one; or ("ring", ring), which parts them."""
    counts, ring = climbed(web[0], turn_gaps(web, one, other))
    if ring is not None:
        return ("ring", ring)
    return ("turns", row_of_turns(web, one, counts))


def are_turns(web, one, other, row):
    """Whether a row of springs, turned one behind the other, leads from one fall to another one."""
    if not isinstance(row, (list, tuple)):
        return False
    fall = one
    for place in row:
        if not is_place(web, place) or place not in springs(web, fall):
            return False
        fall = turned_about(web, fall, place)
    return fall == other


def kin_right(web, one, other, told):
    """Whether turns lead from one fall to another one, or a ring parts them, as told."""
    if not isinstance(told, tuple) or len(told) != 2:
        return False
    word, thing = told
    if word == "turns":
        return are_turns(web, one, other, thing)
    return word == "ring" and is_ring(web, thing) and along(web, one, thing) != along(web, other, thing)
