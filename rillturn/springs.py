"""Springs and mouths of falls, and falls in which one of them is turned."""

from rillturn.errors import NoMouth, NoSpring
from rillturn.pointings import arrows


def springs(web, fall):
    """The rising tuple of the places to which no tie leads."""
    met = [b for a, b in arrows(web, fall)]
    return tuple([place for place in range(web[0]) if place not in met])


def mouths(web, fall):
    """The rising tuple of the places from which no tie leads."""
    left = [a for a, b in arrows(web, fall)]
    return tuple([place for place in range(web[0]) if place not in left])


def turned_about(web, fall, place):
    """The pointing in which all ties of a place are turned."""
    return tuple([1 - number if place in tie else number for tie, number in zip(web[1], fall)])


def turn_spring(web, fall, place):
    """The fall in which a spring is turned: NoSpring."""
    if place not in springs(web, fall):
        raise NoSpring(f"{place} is no spring")
    return turned_about(web, fall, place)


def turn_mouth(web, fall, place):
    """The fall in which a mouth is turned: NoMouth."""
    if place not in mouths(web, fall):
        raise NoMouth(f"{place} is no mouth")
    return turned_about(web, fall, place)
