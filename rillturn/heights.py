"""Heights: the longest way of a fall, and the numbers which show that none is longer."""

from rillturn.pointings import arrows, leading_to, looked
from rillturn.webs import is_place, is_whole


def all_heights(web, fall):
    """The tuple of the heights of all places by a fall."""
    led = arrows(web, fall)
    found = [0] * web[0]
    # In this order a place comes behind all that lead to it, whose heights are found by then.
    for place in looked(web, fall)[1]:
        found[place] = max([found[earlier] + 1 for earlier in leading_to(led, place)], default=0)
    return tuple(found)


def way_up(web, fall, numbers, place):
    """A way to a place, of as many steps as its height; the numbers are all heights."""
    led = arrows(web, fall)
    way = [place]
    while numbers[way[0]] > 0:
        lower = [earlier for earlier in leading_to(led, way[0]) if numbers[earlier] == numbers[way[0]] - 1]
        way.insert(0, lower[0])
    return way


def longest(web, fall):
    """The most steps of a way of a fall, such a way, and all heights."""
    numbers = all_heights(web, fall)
    steps = max(numbers)
    return (steps, way_up(web, fall, numbers, numbers.index(steps)), numbers)


def is_way(web, fall, row):
    """Whether a list or a tuple is a way of a fall."""
    if not row or not all([is_place(web, place) for place in row]):
        return False
    led = arrows(web, fall)
    return all([pair in led for pair in zip(row, row[1:])])


def is_climbing(web, fall, steps, numbers):
    """Whether numbers, one for each place, are from 0 to steps, and each tie leads to a greater one."""
    if not isinstance(numbers, tuple) or len(numbers) != web[0]:
        return False
    if not all([is_whole(number) and 0 <= number <= steps for number in numbers]):
        return False
    return all([numbers[a] < numbers[b] for a, b in arrows(web, fall)])


def longest_right(web, fall, steps, way, heights):
    """Whether steps, a way and numbers show the longest way of a fall."""
    if not is_whole(steps) or not isinstance(way, (list, tuple)) or len(way) != steps + 1:
        return False
    return is_way(web, fall, way) and is_climbing(web, fall, steps, heights)
