"""Hues: numbers of the places, unlike at tied ones, the falls they make, and hues laid by an order."""

from rillturn.webs import is_whole, near


def is_hues(web, thing):
    """Whether a thing is hues of a web."""
    if not isinstance(thing, tuple) or len(thing) != web[0]:
        return False
    if not all([is_whole(number) for number in thing]):
        return False
    return all([thing[a] != thing[b] for a, b in web[1]])


def hued(web, hues):
    """The fall that hues make: each tie leads to its place with the greater number."""
    return tuple([1 if hues[a] < hues[b] else 0 for a, b in web[1]])


def least_without(numbers):
    """The least number from 0 on that is not among some."""
    least = 0
    while least in numbers:
        least += 1
    return least


def laid(web, order):
    """The hues that are laid by an order, each the least that the place may have then."""
    found = {}
    for place in order:
        found[place] = least_without([found[other] for other in near(web, place) if other in found])
    return tuple([found[place] for place in range(web[0])])
