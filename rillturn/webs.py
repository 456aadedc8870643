"""Webs: places that are tied two by two, their pieces and rings, and the webs made of them."""

from rillturn.errors import Apart, NoTie, There, TooMany

MOST_PLACES = 9
MOST_TIES = 20


def is_whole(thing):
    """Whether a thing is a whole number."""
    # Python counts True and False among the ints; here they are no numbers.
    return isinstance(thing, int) and not isinstance(thing, bool)


def is_tie_form(many, thing):
    """Whether a thing is a pair (a, b), a below b, of so many places."""
    if not isinstance(thing, tuple) or len(thing) != 2:
        return False
    a, b = thing
    return is_whole(a) and is_whole(b) and 0 <= a < b < many


def is_web(thing):
    """Whether a thing is a web."""
    if not isinstance(thing, tuple) or len(thing) != 2:
        return False
    many, ties = thing
    if not is_whole(many) or not 1 <= many <= MOST_PLACES:
        return False
    if not isinstance(ties, tuple) or len(ties) > MOST_TIES:
        return False
    if not all([is_tie_form(many, tie) for tie in ties]):
        return False
    return all([one < other for one, other in zip(ties, ties[1:])])


def is_place(web, thing):
    """Whether a thing is a place of a web."""
    return is_whole(thing) and 0 <= thing < web[0]


def tie_of(a, b):
    """The tie of two unlike places, the lesser one first."""
    return (min(a, b), max(a, b))


def near(web, place):
    """The rising tuple of the places that are tied to one."""
    return tuple([other for other in range(web[0]) if tie_of(place, other) in web[1]])


def piece_of(web, place):
    """The rising tuple of the places that are led to from one along ties."""
    found = [place]
    at = 0
    while at < len(found):
        nearby = near(web, found[at])
        found.extend([other for other in nearby if other not in found])
        at += 1
    return tuple(sorted(found))


def pieces(web):
    """The sorted list of a web's pieces."""
    told = []
    for place in range(web[0]):
        piece = piece_of(web, place)
        # A piece is come to from each of its places, and is told by the least one alone.
        if piece[0] == place:
            told.append(piece)
    return told


def refuse_apart(web):
    """Apart, where a web is not in one piece."""
    if len(piece_of(web, 0)) < web[0]:
        raise Apart("the web is in several pieces")


def way_between(ties, one, other):
    """A shortest list of places from one to another one along ties, or None where none leads there."""
    ways = [[one]]
    met = [one]
    at = 0
    while at < len(ways):
        way = ways[at]
        if way[-1] == other:
            return way
        nearby = [a if b == way[-1] else b for a, b in ties if way[-1] in (a, b)]
        unmet = [place for place in nearby if place not in met]
        ways.extend([way + [place] for place in unmet])
        met.extend(unmet)
        at += 1
    return None


def is_circle(web, thing):
    """Whether a thing is a tuple of three or more unlike places, tied or not."""
    if not isinstance(thing, tuple) or len(thing) < 3:
        return False
    if not all([is_place(web, place) for place in thing]):
        return False
    return len(set(thing)) == len(thing)


def around(circle):
    """The list of pairs of a place and the one behind it, the first one being behind the last one."""
    return list(zip(circle, circle[1:] + circle[:1]))


def is_ring(web, thing):
    """Whether a thing is a ring of a web."""
    return is_circle(web, thing) and all([tie_of(a, b) in web[1] for a, b in around(thing)])


def number_drawn(place, a, b):
    """The number of a place where a and b, a below b, are drawn together."""
    if place == b:
        return a
    return place - 1 if place > b else place


def drawn(web, a, b):
    """The web in which the places a and b, a below b, are drawn together."""
    many, ties = web
    pairs = [(number_drawn(one, a, b), number_drawn(other, a, b)) for one, other in ties]
    return (many - 1, tuple(sorted({tie_of(one, other) for one, other in pairs if one != other})))


def with_tie(web, a, b):
    """The web with the tie of a and b more, which are not tied; it may have any count of ties."""
    many, ties = web
    return (many, tuple(sorted(ties + (tie_of(a, b),))))


def tied(web, a, b):
    """The web with the tie of a and b more: There, then TooMany."""
    ties = web[1]
    if tie_of(a, b) in ties:
        raise There(f"{a} and {b} are tied")
    if len(ties) >= MOST_TIES:
        raise TooMany(f"there are {len(ties)} ties")
    return with_tie(web, a, b)


def untied(web, a, b):
    """The web without the tie of a and b: NoTie."""
    many, ties = web
    tie = tie_of(a, b)
    if tie not in ties:
        raise NoTie(f"{a} and {b} are not tied")
    return (many, tuple([other for other in ties if other != tie]))
