"""Webs, pointings and odd things for the tests, and slow answers to compare with."""

import itertools

BARE = (1, ())
TRIANGLE = (3, ((0, 1), (0, 2), (1, 2)))
SQUARE = (4, ((0, 1), (0, 3), (1, 2), (2, 3)))
PATH = (4, ((0, 1), (1, 2), (2, 3)))
# A triangle, a pair, and a place with no tie, their numbers mixed.
THREE_PIECES = (6, ((0, 3), (0, 5), (1, 4), (3, 5)))
NINE_ALONE = (9, ())
NINE_RING = (9, ((0, 1), (0, 8), (1, 2), (2, 3), (3, 4), (4, 5), (5, 6), (6, 7), (7, 8)))
ALL_NINE_PAIRS = tuple(itertools.combinations(range(9), 2))
TWENTY = (9, ALL_NINE_PAIRS[:20])
NINETEEN = (9, ALL_NINE_PAIRS[:19])
TWO = (2, ((0, 1),))
FIVE_RING = (5, ((0, 1), (0, 4), (1, 2), (2, 3), (3, 4)))
# A ring of five with a place in the midst: no four are a crowd, but three hues don't do.
WHEEL = (6, ((0, 1), (0, 4), (0, 5), (1, 2), (1, 5), (2, 3), (2, 5), (3, 4), (3, 5), (4, 5)))
SPINDLE = (7, ((0, 1), (0, 2), (0, 3), (0, 4), (1, 2), (1, 5), (2, 5), (3, 4), (3, 6), (4, 6), (5, 6)))
# The crowd of six lies at the last places; 0 and 2 are one more piece, 1 is tied to the crowd.
SIX_CROWD = (9, ((0, 2), (1, 8)) + tuple(itertools.combinations(range(3, 9), 2)))
# As many ties as may be, among all nine places.
TWENTY_MIXED = (9, (
    (0, 1), (0, 4), (0, 6), (0, 8), (1, 2), (1, 5), (1, 7), (2, 3), (2, 6), (2, 8), (3, 4), (3, 5), (3, 7), (4, 5),
    (4, 6), (4, 8), (5, 6), (5, 8), (6, 7), (7, 8),
))
NAMED_WEBS = [
    BARE, TWO, TRIANGLE, SQUARE, PATH, THREE_PIECES, NINE_ALONE, NINE_RING, NINETEEN, TWENTY, FIVE_RING, WHEEL, SPINDLE,
    SIX_CROWD, TWENTY_MIXED,
]

# One of each kind that may be handed to a function is_.., none a tuple of places.
OTHER_KINDS = [
    None, True, False, 0, 1, -1, 3, 10 ** 18, -(10 ** 18), 10 ** 30, "", "a", "0-1", "012", [], [0, 1, 2], {}, {0: 1},
    {"a": [1]}, (), (None,), ("0", "1", "2"), ([],), ({},), ((),), ([0], [1], [2]), ({}, {}, {}), ((0,), (1,), (2,)),
    (None, None, None), ((((1,),),),), [[[[1]]]], tuple(range(80)), [0] * 80,
]


def small_webs(most):
    """All webs of at most so many places."""
    webs = []
    for many in range(1, most + 1):
        pairs = list(itertools.combinations(range(many), 2))
        for count in range(len(pairs) + 1):
            webs.extend((many, ties) for ties in itertools.combinations(pairs, count))
    return webs


def all_pointings(web):
    return list(itertools.product((0, 1), repeat=len(web[1])))


def numbers_from(seed):
    """An endless row of numbers, the same one at each run."""
    while True:
        seed = (seed * 6364136223846793005 + 1442695040888963407) % 2 ** 64
        yield seed >> 33


def mixed_webs(count, seed):
    """Webs of 5 to 9 places and 0 to 20 ties, the same ones at each run."""
    row = numbers_from(seed)
    webs = []
    for _ in range(count):
        many = 5 + next(row) % 5
        pairs = list(itertools.combinations(range(many), 2))
        wanted = min(next(row) % 21, len(pairs))
        ties = set()
        while len(ties) < wanted:
            ties.add(pairs[next(row) % len(pairs)])
        webs.append((many, tuple(sorted(ties))))
    return webs


def mixed_pointings(web, count, seed):
    row = numbers_from(seed)
    return [tuple(next(row) % 2 for _ in web[1]) for _ in range(count)]


def mixed_falls(web, count, seed):
    """Falls, each made by an order that the row of numbers shuffles."""
    row = numbers_from(seed)
    falls = []
    for _ in range(count):
        ranks = [(next(row), place) for place in range(web[0])]
        falls.append(tuple(1 if ranks[a] < ranks[b] else 0 for a, b in web[1]))
    return falls


def leads(web, pointing):
    """The pairs (from, to), told without the program."""
    pairs = set()
    for at, (a, b) in enumerate(web[1]):
        pairs.add((a, b) if pointing[at] else (b, a))
    return pairs


def slow_orders(web, pointing):
    """All orders of a pointing, in Python's order."""
    pairs = leads(web, pointing)
    return [
        order for order in itertools.permutations(range(web[0]))
        if all(order.index(a) < order.index(b) for a, b in pairs)
    ]


def slow_first_order(web, pointing, begun=()):
    """The first order of a pointing, found by trying all places in turn; None where there is none."""
    if len(begun) == web[0]:
        return begun
    pairs = leads(web, pointing)
    for place in range(web[0]):
        if place not in begun and all(a in begun for a, b in pairs if b == place):
            # Whatever may come next is no hindrance to the rest, so the first one that may settles it.
            return slow_first_order(web, pointing, begun + (place,))
    return None


def slow_height(web, fall, place):
    return max([slow_height(web, fall, a) + 1 for a, b in leads(web, fall) if b == place], default=0)


def slow_ways(web, fall):
    """All ways of a fall."""
    pairs = leads(web, fall)
    ways = [[place] for place in range(web[0])]
    for way in ways:
        ways.extend(way + [b] for a, b in sorted(pairs) if a == way[-1])
    return ways


def is_fall(web, pointing):
    return slow_first_order(web, pointing) is not None


def slow_falls(web):
    """All falls, in Python's order, found among all pointings."""
    return [pointing for pointing in all_pointings(web) if is_fall(web, pointing)]


def flipped(pointing, at):
    return pointing[:at] + (1 - pointing[at],) + pointing[at + 1:]


def some_falls(web, count, seed):
    """All falls of a small web, some of another one."""
    return slow_falls(web) if len(web[1]) <= 6 else mixed_falls(web, count, seed)


def slow_has_hues(web, k):
    """Whether some of all tuples with numbers from 0 to k - 1 has unlike ones at tied places."""
    rows = itertools.product(range(k), repeat=web[0])
    return any(all(row[a] != row[b] for a, b in web[1]) for row in rows)


def slow_paper(web, k, paper, groups=None, more=()):
    """Whether a paper is one of k for a web, whose places stand for groups of the first web's places."""
    if groups is None:
        groups = [[place] for place in range(web[0])]

    def are_tied(a, b):
        pairs = {(x, y) for x in groups[a] for y in groups[b]} | {(y, x) for x in groups[a] for y in groups[b]}
        return any(pair in web[1] or pair in more for pair in pairs)

    numbers = range(len(groups))
    if paper[0] == "crowd":
        crowd = paper[1]
        if len(crowd) != k or any(place not in numbers for place in crowd) or list(crowd) != sorted(set(crowd)):
            return False
        return all(are_tied(a, b) for a, b in itertools.combinations(crowd, 2))
    word, a, b, one, other = paper
    if a not in numbers or b not in numbers or a >= b or are_tied(a, b):
        return False
    joined = [group + groups[b] if at == a else group for at, group in enumerate(groups) if at != b]
    if not slow_paper(web, k, one, joined, more):
        return False
    return slow_paper(web, k, other, groups, more + ((groups[a][0], groups[b][0]),))
