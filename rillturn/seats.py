"""Seats: falls with one spring alone, one of each kin for each place."""

from rillturn.errors import TooMany
from rillturn.pointings import leading_to
from rillturn.springs import springs, turned_about
from rillturn.webs import near, refuse_apart

MOST_SEATED = 120


def springs_but(web, fall, place):
    """The list of all springs but one place."""
    return [spring for spring in springs(web, fall) if spring != place]


def seat(web, fall, place):
    """The kin of a fall that is seated at a place, and how often each place is turned to come there: Apart."""
    refuse_apart(web)
    counts = [0] * web[0]
    others = springs_but(web, fall, place)
    while others:
        counts[others[0]] += 1
        fall = turned_about(web, fall, others[0])
        others = springs_but(web, fall, place)
    return (fall, tuple(counts))


def may_follow(found, nearby, ahead):
    """Whether a place that is tied to some and led to by some has one of these and all of those among the found."""
    return any([place in found for place in nearby]) and all([place in found for place in ahead])


def may_be_seated(nears, led, place):
    """Whether some arrows of a web leave its other ties a way to be pointed such that a place is the only spring."""
    if leading_to(led, place):
        return False
    aheads = [leading_to(led, other) for other in range(len(nears))]
    found = [place]
    more = [place]
    # Whatever may follow now may follow later, too, so that it's no matter which one does first.
    while more:
        left = [other for other in range(len(nears)) if other not in found]
        more = [other for other in left if may_follow(found, nears[other], aheads[other])]
        found.extend(more)
    return len(found) == len(nears)


def seated(web, place):
    """The sorted list of all falls that are seated at a place: Apart, then TooMany where there are more than 120."""
    refuse_apart(web)
    nears = [near(web, other) for other in range(web[0])]
    found = [[]]
    for a, b in web[1]:
        longer = [led + [arrow] for led in found for arrow in [(b, a), (a, b)]]
        found = [led for led in longer if may_be_seated(nears, led, place)]
        # Each of these is a part of some fall that is seated there, and no two of the same one.
        if len(found) > MOST_SEATED:
            raise TooMany(f"more than {MOST_SEATED} falls are seated at {place}")
    return [tuple([1 if a < b else 0 for a, b in led]) for led in found]
