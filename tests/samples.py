"""Webs, pointings and odd things for the tests, and slow answers to compare with."""

import functools
import itertools
from fractions import Fraction

BARE = (1, ())
TRIANGLE = (3, ((0, 1), (0, 2), (1, 2)))
SQUARE = (4, ((0, 1), (0, 3), (1, 2), (2, 3)))
PATH = (4, ((0, 1), (1, 2), (2, 3)))
# A triangle, a pair, and a place with no tie, their numbers mixed.
THREE_PIECES = (6, ((0, 3), (0, 5), (1, 4), (3, 5)))
NINE_ALONE = (9, ())
NINE_RING = (9, ((0, 1), (0, 8), (1, 2), (2, 3), (3, 4), (4, 5), (5, 6), (6, 7), (7, 8)))
ALL_NINE_PAIRS = tuple(itertools.combinations(range(9), 2))
TWENTY = (9, ALL_NINE_PAIRS[:20])
NINETEEN = (9, ALL_NINE_PAIRS[:19])
TWO = (2, ((0, 1),))
FIVE_RING = (5, ((0, 1), (0, 4), (1, 2), (2, 3), (3, 4)))
# A ring of five with a place in the midst: no four are a crowd, but three hues don't do.
WHEEL = (6, ((0, 1), (0, 4), (0, 5), (1, 2), (1, 5), (2, 3), (2, 5), (3, 4), (3, 5), (4, 5)))
SPINDLE = (7, ((0, 1), (0, 2), (0, 3), (0, 4), (1, 2), (1, 5), (2, 5), (3, 4), (3, 6), (4, 6), (5, 6)))
# The crowd of six lies at the last places; 0 and 2 are one more piece, 1 is tied to the crowd.
SIX_CROWD = (9, ((0, 2), (1, 8)) + tuple(itertools.combinations(range(3, 9), 2)))
# As many ties as may be, among all nine places.
TWENTY_MIXED = (9, (
    (0, 1), (0, 4), (0, 6), (0, 8), (1, 2), (1, 5), (1, 7), (2, 3), (2, 6), (2, 8), (3, 4), (3, 5), (3, 7), (4, 5),
    (4, 6), (4, 8), (5, 6), (5, 8), (6, 7), (7, 8),
))
# A web with 122 kins; crowds of six, and others, have 120.
JUST_MANY_KINS = (9, (
    (0, 1), (0, 3), (0, 4), (0, 5), (1, 3), (1, 6), (2, 4), (2, 7), (2, 8), (3, 7), (4, 6), (4, 7), (4, 8), (6, 8),
))
SIX = (6, tuple(itertools.combinations(range(6), 2)))
# No ring: a row of nine places, their numbers mixed, and a star.
NINE_ROW = (9, ((0, 4), (0, 8), (1, 5), (1, 7), (2, 6), (2, 8), (3, 5), (3, 6)))
STAR = (9, tuple((3, place) if place > 3 else (place, 3) for place in (0, 1, 2, 4, 5, 6, 7, 8)))
# Two rings that share no place, and a place alone.
TWO_RINGS = (9, ((0, 2), (0, 6), (1, 3), (1, 7), (2, 4), (3, 5), (4, 6), (5, 7)))
NAMED_WEBS = [
    BARE, TWO, TRIANGLE, SQUARE, PATH, THREE_PIECES, NINE_ALONE, NINE_RING, NINETEEN, TWENTY, FIVE_RING, WHEEL, SPINDLE,
    SIX_CROWD, TWENTY_MIXED,
]

# One of each kind that may be handed to a function is_.., none a tuple of places.
OTHER_KINDS = [
    None, True, False, 0, 1, -1, 3, 10 ** 18, -(10 ** 18), 10 ** 30, "", "a", "0-1", "012", [], [0, 1, 2], {}, {0: 1},
    {"a": [1]}, (), (None,), ("0", "1", "2"), ([],), ({},), ((),), ([0], [1], [2]), ({}, {}, {}), ((0,), (1,), (2,)),
    (None, None, None), ((((1,),),),), [[[[1]]]], tuple(range(80)), [0] * 80,
]


def small_webs(most):
    """All webs of at most so many places."""
    webs = []
    for many in range(1, most + 1):
        pairs = list(itertools.combinations(range(many), 2))
        for count in range(len(pairs) + 1):
            webs.extend((many, ties) for ties in itertools.combinations(pairs, count))
    return webs


def all_pointings(web):
    return list(itertools.product((0, 1), repeat=len(web[1])))


def numbers_from(seed):
    """An endless row of numbers, the same one at each run."""
    while True:
        seed = (seed * 6364136223846793005 + 1442695040888963407) % 2 ** 64
        yield seed >> 33


def mixed_webs(count, seed):
    """Webs of 5 to 9 places and 0 to 20 ties, the same ones at each run."""
    row = numbers_from(seed)
    webs = []
    for _ in range(count):
        many = 5 + next(row) % 5
        pairs = list(itertools.combinations(range(many), 2))
        wanted = min(next(row) % 21, len(pairs))
        ties = set()
        while len(ties) < wanted:
            ties.add(pairs[next(row) % len(pairs)])
        webs.append((many, tuple(sorted(ties))))
    return webs


def mixed_pointings(web, count, seed):
    row = numbers_from(seed)
    return [tuple(next(row) % 2 for _ in web[1]) for _ in range(count)]


def mixed_falls(web, count, seed):
    """Falls, each made by an order that the row of numbers shuffles."""
    row = numbers_from(seed)
    falls = []
    for _ in range(count):
        ranks = [(next(row), place) for place in range(web[0])]
        falls.append(tuple(1 if ranks[a] < ranks[b] else 0 for a, b in web[1]))
    return falls


def leads(web, pointing):
    """The pairs (from, to), told without the program."""
    pairs = set()
    for at, (a, b) in enumerate(web[1]):
        pairs.add((a, b) if pointing[at] else (b, a))
    return pairs


def slow_orders(web, pointing):
    """All orders of a pointing, in Python's order."""
    pairs = leads(web, pointing)
    return [
        order for order in itertools.permutations(range(web[0]))
        if all(order.index(a) < order.index(b) for a, b in pairs)
    ]


def slow_first_order(web, pointing, begun=()):
    """The first order of a pointing, found by trying all places in turn; None where there is none."""
    if len(begun) == web[0]:
        return begun
    pairs = leads(web, pointing)
    for place in range(web[0]):
        if place not in begun and all(a in begun for a, b in pairs if b == place):
            # Whatever may come next is no hindrance to the rest, so the first one that may settles it.
            return slow_first_order(web, pointing, begun + (place,))
    return None


def slow_height(web, fall, place):
    return max([slow_height(web, fall, a) + 1 for a, b in leads(web, fall) if b == place], default=0)


def slow_ways(web, fall):
    """All ways of a fall."""
    pairs = leads(web, fall)
    ways = [[place] for place in range(web[0])]
    for way in ways:
        ways.extend(way + [b] for a, b in sorted(pairs) if a == way[-1])
    return ways


def is_fall(web, pointing):
    return slow_first_order(web, pointing) is not None


def slow_falls(web):
    """All falls, in Python's order, found among all pointings."""
    return [pointing for pointing in all_pointings(web) if is_fall(web, pointing)]


def flipped(pointing, at):
    return pointing[:at] + (1 - pointing[at],) + pointing[at + 1:]


def some_falls(web, count, seed):
    """All falls of a small web, some of another one."""
    return slow_falls(web) if len(web[1]) <= 6 else mixed_falls(web, count, seed)


def slow_has_hues(web, k):
    """Whether some of all tuples with numbers from 0 to k - 1 has unlike ones at tied places."""
    rows = itertools.product(range(k), repeat=web[0])
    return any(all(row[a] != row[b] for a, b in web[1]) for row in rows)


def slow_paper(web, k, paper, groups=None, more=()):
    """Whether a paper is one of k for a web, whose places stand for groups of the first web's places."""
    if groups is None:
        groups = [[place] for place in range(web[0])]

    def are_tied(a, b):
        pairs = {(x, y) for x in groups[a] for y in groups[b]} | {(y, x) for x in groups[a] for y in groups[b]}
        return any(pair in web[1] or pair in more for pair in pairs)

    numbers = range(len(groups))
    if paper[0] == "crowd":
        crowd = paper[1]
        if len(crowd) != k or any(place not in numbers for place in crowd) or list(crowd) != sorted(set(crowd)):
            return False
        return all(are_tied(a, b) for a, b in itertools.combinations(crowd, 2))
    word, a, b, one, other = paper
    if a not in numbers or b not in numbers or a >= b or are_tied(a, b):
        return False
    joined = [group + groups[b] if at == a else group for at, group in enumerate(groups) if at != b]
    if not slow_paper(web, k, one, joined, more):
        return False
    return slow_paper(web, k, other, groups, more + ((groups[a][0], groups[b][0]),))


@functools.cache
def slow_rings(web):
    """All rings, each once: from its least place on, towards the lesser one of its two neighbours."""
    ties = set(web[1]) | {(b, a) for a, b in web[1]}
    rings = []
    rows = [(place,) for place in range(web[0])]
    for row in rows:
        if len(row) > 2 and row[1] < row[-1] and (row[-1], row[0]) in ties:
            rings.append(row)
        rows.extend(row + (place,) for place in range(row[0] + 1, web[0])
                    if place not in row and (row[-1], place) in ties)
    return tuple(rings)


def slow_along(web, pointing, ring):
    """How many steps round a ring go as the ties lead."""
    pairs = leads(web, pointing)
    return sum((ring[at - 1], ring[at]) in pairs for at in range(len(ring)))


def turned_rings(ring):
    """A ring from any place on and either way about."""
    rows = [ring[at:] + ring[:at] for at in range(len(ring))]
    return rows + [row[::-1] for row in rows]


@functools.cache
def all_turned_rings(web):
    """All rings, from any place on and either way about."""
    return frozenset(row for ring in slow_rings(web) for row in turned_rings(ring))


def slow_springs(web, fall):
    return tuple(place for place in range(web[0]) if all(b != place for a, b in leads(web, fall)))


def slow_mouths(web, fall):
    return tuple(place for place in range(web[0]) if all(a != place for a, b in leads(web, fall)))


def slow_turned(web, fall, place):
    for k, tie in enumerate(web[1]):
        if place in tie:
            fall = flipped(fall, k)
    return fall


def slow_kin(web, fall, most=None):
    """All kin of a fall, or of many so many at least, each with the count of the fewest turns that lead to it."""
    found = {fall: 0}
    rows = [fall]
    for at in rows:
        if most is not None and len(rows) > most:
            break
        for place in slow_springs(web, at):
            other = slow_turned(web, at, place)
            if other not in found:
                found[other] = found[at] + 1
                rows.append(other)
    return found


def slow_ring_worth(web, fall, ring):
    led = slow_along(web, fall, ring)
    return Fraction(len(ring), min(led, len(ring) - led))


@functools.cache
def slow_worth(web, fall):
    """The greatest worth of all rings, as a fraction."""
    bare = Fraction(2 if web[1] else 1)
    return max([slow_ring_worth(web, fall, ring) for ring in slow_rings(web)], default=bare)


def as_pair(fraction):
    return (fraction.numerator, fraction.denominator)


def slow_kin_count(web):
    """How many kins a web has, 0 where it is in several pieces: by ties left out and drawn together."""
    def count(places, ties):
        if not ties:
            return 1 if len(places) == 1 else 0
        a, b = ties[0]
        pairs = {tuple(sorted(a if place == b else place for place in tie)) for tie in ties[1:]}
        less = tuple(sorted(pair for pair in pairs if pair[0] != pair[1]))
        return count(places, ties[1:]) + count(places - {b}, less)

    return count(frozenset(range(web[0])), web[1])


def is_whole_web(web):
    """Whether a web is in one piece."""
    found = {0}
    for _ in range(web[0]):
        found |= {b for a, b in web[1] if a in found} | {a for a, b in web[1] if b in found}
    return len(found) == web[0]


def mixed_whole_webs(count, seed, most=20):
    """Webs in one piece of 5 to 9 places and at most so many ties."""
    webs = [web for web in mixed_webs(count * 6, seed) if is_whole_web(web) and len(web[1]) <= most]
    return webs[:count]


@functools.cache
def slow_partings(web):
    """How many ways there are to part all places into j groups with no tie within one, told as a list by j."""
    found = [0] * (web[0] + 1)

    def place_next(place, groups):
        if place == web[0]:
            found[len(groups)] += 1
            return
        for at, group in enumerate(groups):
            if all((other, place) not in web[1] for other in group):
                place_next(place + 1, groups[:at] + [group + [place]] + groups[at + 1:])
        place_next(place + 1, groups + [[place]])

    place_next(0, [])
    return tuple(found)


def slow_hueings(web, k):
    """How many tuples of hues below k there are: the groups of a parting have unlike hues."""
    total = 0
    for j, many in enumerate(slow_partings(web)):
        for taken in range(j):
            many *= k - taken
        total += many
    return total


def slow_fall_count(web):
    """How many falls a web has: those without a tie, and those of the web in which its places are drawn together."""
    def count(ties):
        if not ties:
            return 1
        a, b = ties[0]
        pairs = {tuple(sorted(a if place == b else place for place in tie)) for tie in ties[1:]}
        return count(ties[1:]) + count(tuple(sorted(pair for pair in pairs if pair[0] != pair[1])))

    return count(web[1])


def text_of(web, pointing=None):
    """A web's text, or a pointing's, written without the program."""
    text = "%d" % web[0]
    for at, (a, b) in enumerate(web[1]):
        text += " %d-%d" % (a, b) if pointing is None else " %d>%d" % ((a, b) if pointing[at] else (b, a))
    return text
