"""Hue rows, and what they count: hueings, falls, kins, poled falls, pairs of a fall and of numbers."""

from rillturn.errors import NoTie
from rillturn.webs import drawn, refuse_apart


def row_of(web, known):
    """The hue row of a web, those of webs that are met on the way being known from then on."""
    many, ties = web
    if not ties:
        return [0] * many + [1]
    if web not in known:
        a, b = ties[0]
        without = row_of((many, ties[1:]), known)
        together = row_of(drawn(web, a, b), known) + [0]
        known[web] = [one - other for one, other in zip(without, together)]
    return known[web]


def hue_row(web):
    """The list of the whole numbers that, times the powers of k, come to the count of hues below k."""
    return row_of(web, {})


def row_at(row, k):
    """What a row of numbers comes to at k."""
    total = 0
    for number in reversed(row):
        total = total * k + number
    return total


def hueings(web, k):
    """How many tuples of hues there are with numbers from 0 to k - 1."""
    return row_at(hue_row(web), k)


def falls_many(web):
    """How many falls a web has."""
    return abs(row_at(hue_row(web), -1))


def kins_many(web):
    """How many kins a web has: Apart."""
    refuse_apart(web)
    return abs(hue_row(web)[1])


def poled_many(web):
    """How many falls are poled by the places of any one tie, either way about: Apart, NoTie."""
    refuse_apart(web)
    if not web[1]:
        raise NoTie("the web has no tie")
    return abs(sum([at * number for at, number in enumerate(hue_row(web))]))


def pairs_many(web, k):
    """How many pairs of a fall and of numbers from 0 to k - 1 there are, no tie leading to a lesser number."""
    return abs(row_at(hue_row(web), -k))
