"""Numbers of places that keep gaps between them, or a ring of gaps that no numbers keep."""


def circle_back(earlier, place):
    """The tuple of places that going back from a place, over and over, ends in going round."""
    trail = [place]
    while earlier[trail[-1]] not in trail:
        trail.append(earlier[trail[-1]])
    return tuple(trail[trail.index(earlier[trail[-1]]):])


def climbed(many, gaps):
    """The least numbers from 0 on that keep gaps, and None; or None and a circle of places whose gaps come to above 0.

    A gap (a, b, more) is kept where the number of b is greater by more, at least, than that of a.
    """
    numbers = [0] * many
    earlier = [None] * many
    for turn in range(many):
        last = None
        for a, b, more in gaps:
            if numbers[b] < numbers[a] + more:
                numbers[b] = numbers[a] + more
                earlier[b] = a
                last = b
        if last is None:
            return (tuple(numbers), None)
    # A row of unlike places has fewer gaps than there were turns, so what still rose was raised by going round.
    return (None, circle_back(earlier, last))
