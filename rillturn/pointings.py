"""Pointings: each tie leads one way, by an order of the places or with a round."""

from rillturn.webs import around, is_circle, is_whole


def is_pointing(web, thing):
    """Whether a thing is a pointing of a web."""
    if not isinstance(thing, tuple) or len(thing) != len(web[1]):
        return False
    return all([is_whole(number) and 0 <= number <= 1 for number in thing])


def arrows(web, pointing):
    """The list of ties, in order, as pairs of the place that is left and the one that is led to."""
    return [(a, b) if number == 1 else (b, a) for (a, b), number in zip(web[1], pointing)]


def leading_to(led, place):
    """The list of the places that lead to one by a list of arrows."""
    return [a for a, b in led if b == place]


def leads_on(led, one, other):
    """Whether a way leads from one place to another one by a list of arrows."""
    found = [one]
    at = 0
    while at < len(found):
        found.extend([b for a, b in led if a == found[at] and b not in found])
        at += 1
    return other in found


def is_round(web, pointing, thing):
    """Whether a thing is a round of a pointing."""
    if not is_circle(web, thing):
        return False
    led = arrows(web, pointing)
    return all([pair in led for pair in around(thing)])


def round_of(led):
    """A round of a list of arrows, where to each place that an arrow leaves another one leads."""
    trail = [led[0][0]]
    earlier = leading_to(led, trail[-1])[0]
    while earlier not in trail:
        trail.append(earlier)
        earlier = leading_to(led, trail[-1])[0]
    # The trail was gone against the arrows, so it is told from its end.
    return tuple(reversed(trail[trail.index(earlier):]))


def looked(web, pointing):
    """A pointing's first order, as ("order", order), or a round of it, as ("round", round)."""
    led = arrows(web, pointing)
    left = list(range(web[0]))
    order = []
    while left:
        heads = [place for place in left if not leading_to(led, place)]
        if not heads:
            return ("round", round_of(led))
        # The least one that may come next, at every turn, makes the first of all orders.
        order.append(heads[0])
        left.remove(heads[0])
        led = [arrow for arrow in led if arrow[0] != heads[0]]
    return ("order", tuple(order))


def ordered(web, order):
    """The pointing that an order orders."""
    return tuple([1 if order.index(a) < order.index(b) else 0 for a, b in web[1]])
