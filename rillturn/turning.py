"""Ties turned one by one: free ties, roads between falls, and all falls."""

from rillturn.errors import TooMany
from rillturn.pointings import arrows, leads_on
from rillturn.webs import is_whole

MOST_FALLS = 300


def turned(web, pointing, k):
    """The pointing in which the tie of a number is turned."""
    return tuple([1 - pointing[at] if at == k else pointing[at] for at in range(len(web[1]))])


def is_free(web, fall, k):
    """Whether the tie of a number is free."""
    led = arrows(web, fall)
    a, b = led.pop(k)
    return not leads_on(led, a, b)


def free_ties(web, fall):
    """The rising list of the numbers of the free ties of a fall."""
    return [k for k in range(len(web[1])) if is_free(web, fall, k)]


def road(web, one, other):
    """A road from one fall to another one, each tie that is pointed otherwise being turned once."""
    row = []
    fall = one
    while fall != other:
        # Of the ties that are pointed otherwise one is always free: the one whose places' heights differ least,
        # as another way round it would hold such a tie again, with heights that differ less.
        free = [k for k in free_ties(web, fall) if fall[k] != other[k]]
        row.append(free[0])
        fall = turned(web, fall, free[0])
    return row


def road_right(web, one, other, row):
    """Whether a list of numbers is a road from one fall to another one."""
    if not isinstance(row, (list, tuple)):
        return False
    fall = one
    for k in row:
        if not is_whole(k) or not 0 <= k < len(web[1]) or not is_free(web, fall, k):
            return False
        fall = turned(web, fall, k)
    return fall == other


def pointed_on(led, tie):
    """A list of arrows without a round with a tie more, each way about that makes none; first as by 0."""
    a, b = tie
    return [led + [(x, y)] for x, y in [(b, a), (a, b)] if not leads_on(led, y, x)]


def all_falls(web):
    """The sorted list of all falls of a web: TooMany where there are more than 300."""
    found = [[]]
    for tie in web[1]:
        found = [more for led in found for more in pointed_on(led, tie)]
        # Whatever falls by the first ties may be pointed on to a fall by all, so there are no fewer in the end.
        if len(found) > MOST_FALLS:
            raise TooMany(f"there are more than {MOST_FALLS} falls")
    return [tuple([1 if a < b else 0 for a, b in led]) for led in found]
