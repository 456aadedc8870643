"""Poles: falls from one only spring to one only mouth, the orders that make them, or the cuts that hinder them."""

from rillturn.errors import SamePlace
from rillturn.seats import seated
from rillturn.springs import mouths
from rillturn.webs import is_place, near, refuse_apart, way_between


def refuse_poles(web, s, t):
    """Apart, then SamePlace, where two places of a web are no poles."""
    refuse_apart(web)
    if s == t:
        raise SamePlace(f"both are {s}")


def part_of(web, order, place):
    """The rising tuple of the places that are led to from one along ties without one of an order."""
    free = [(a, b) for a, b in web[1] if a not in order and b not in order]
    return tuple([other for other in range(web[0]) if way_between(free, place, other) is not None])


def edge_of(web, order, part):
    """The list of the places of an order, as they stand in it, that are tied to a part."""
    return [place for place in order if any([other in part for other in near(web, place)])]


def bow(web, one, other, part):
    """The list of the places of a way from one place to another one, both left out, that goes through a part."""
    ties = [(a, b) for a, b in web[1] if a in part or b in part]
    inner = [(a, b) for a, b in ties if all([place in part + (one, other) for place in (a, b)])]
    return way_between(inner, one, other)[1:-1]


def poled(web, s, t):
    """("order", order), by which a fall is poled by s and t; or ("cut", place, part): Apart, then SamePlace."""
    refuse_poles(web, s, t)
    order = way_between(web[1], s, t)
    while len(order) < web[0]:
        left = [place for place in range(web[0]) if place not in order]
        part = part_of(web, order, left[0])
        edge = edge_of(web, order, part)
        if len(edge) == 1:
            return ("cut", edge[0], part)
        # Behind the earlier place of its edge a way to a later one has an earlier and a later place beside each.
        at = order.index(edge[0]) + 1
        order[at:at] = bow(web, edge[0], edge[1], part)
    return ("order", tuple(order))


def is_between(web, order, at):
    """Whether the place that stands somewhere in an order has a tied one that is earlier and one that is later."""
    nearby = near(web, order[at])
    return any([place in nearby for place in order[:at]]) and any([place in nearby for place in order[at + 1:]])


def is_pole_order(web, s, t, thing):
    """Whether a thing is an order from s to t in which each other place has a tied one on either side."""
    if not isinstance(thing, tuple) or not all([is_place(web, place) for place in thing]):
        return False
    if sorted(thing) != list(range(web[0])) or thing[0] != s or thing[-1] != t:
        return False
    return all([is_between(web, thing, at) for at in range(1, len(thing) - 1)])


def is_cut(web, s, t, place, part):
    """Whether a part without s and t, and without a place, is tied to itself and to that place alone."""
    if not isinstance(part, tuple) or not part or not all([is_place(web, other) for other in part + (place,)]):
        return False
    if not all([one < other for one, other in zip(part, part[1:])]):
        return False
    if any([other in part for other in (s, t, place)]):
        return False
    return all([far in part or far == place for other in part for far in near(web, other)])


def poled_right(web, s, t, told):
    """Whether an order is one by which a fall is poled, or a cut hinders it, as told: Apart, then SamePlace."""
    refuse_poles(web, s, t)
    if not isinstance(told, tuple):
        return False
    if len(told) == 2:
        return told[0] == "order" and is_pole_order(web, s, t, told[1])
    return len(told) == 3 and told[0] == "cut" and is_cut(web, s, t, told[1], told[2])


def all_poled(web, s, t):
    """The sorted list of all falls that are poled by s and t: Apart, SamePlace, then TooMany."""
    refuse_poles(web, s, t)
    return [fall for fall in seated(web, s) if mouths(web, fall) == (t,)]
