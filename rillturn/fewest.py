"""The fewest hues of a web, and the paper which shows that fewer don't do."""

from rillturn.hues import is_hues
from rillturn.webs import drawn, is_place, is_tie_form, is_whole, near, with_tie


def hues_from(web, k, begun):
    """Hues from 0 to k - 1 that begin with some, or None where there are none."""
    place = len(begun)
    if place == web[0]:
        return begun
    taken = [begun[other] for other in near(web, place) if other < place]
    # Numbers that no place has yet are alike, so the least one of them stands for all.
    for number in range(min(k, max(begun, default=-1) + 2)):
        if number not in taken:
            found = hues_from(web, k, begun + (number,))
            if found is not None:
                return found
    return None


def crowd_of(web, k):
    """A rising tuple of k places each two of which are tied, or None where there is none."""
    crowds = [(place,) for place in range(web[0])]
    for size in range(1, k):
        crowds = [
            crowd + (place,) for crowd in crowds for place in near(web, crowd[-1])
            if place > crowd[-1] and all([(other, place) in web[1] for other in crowd])
        ]
    return crowds[0] if crowds else None


def shared(web, a, b):
    """How many places are tied to both of two."""
    return len(set(near(web, a)) & set(near(web, b)))


def parting(web):
    """Two places, the lesser one first, that are not tied, where not all are."""
    many, ties = web
    pairs = [(a, b) for a in range(many) for b in range(a + 1, many) if (a, b) not in ties]
    # Tied, two that share most make crowds soonest, which keeps papers short.
    return max(pairs, key=lambda pair: shared(web, pair[0], pair[1]))


def paper_of(web, k):
    """A paper of k for a web, of which less than k hues don't do."""
    crowd = crowd_of(web, k)
    if crowd is not None:
        return ("crowd", crowd)
    # There are two that are not tied: else all places, k of them at least, were a crowd.
    a, b = parting(web)
    return ("part", a, b, paper_of(drawn(web, a, b), k), paper_of(with_tie(web, a, b), k))


def fewest(web):
    """The count k of the fewest hues, such hues with numbers from 0 to k - 1, and a paper of k."""
    k = 1
    found = hues_from(web, k, ())
    while found is None:
        k += 1
        found = hues_from(web, k, ())
    return (k, found, paper_of(web, k))


def is_crowd(web, k, thing):
    """Whether a thing is a rising tuple of k places each two of which are tied."""
    if not isinstance(thing, tuple) or len(thing) != k:
        return False
    if not all([is_place(web, place) for place in thing]):
        return False
    # Ties have their lesser place first, so that these are ties only where the places rise.
    return all([(a, b) in web[1] for at, a in enumerate(thing) for b in thing[at + 1:]])


def is_part(web, k, thing):
    """Whether a tuple of five things parts a web by two places into two papers of k."""
    word, a, b, one, other = thing
    if word != "part" or not is_tie_form(web[0], (a, b)) or (a, b) in web[1]:
        return False
    return is_paper(drawn(web, a, b), k, one) and is_paper(with_tie(web, a, b), k, other)


def is_paper(web, k, thing):
    """Whether a thing is a paper of k for a web, which may have any count of ties."""
    if not isinstance(thing, tuple):
        return False
    if len(thing) == 2:
        return thing[0] == "crowd" and is_crowd(web, k, thing[1])
    return len(thing) == 5 and is_part(web, k, thing)


def fewest_right(web, k, hues, paper):
    """Whether hues with numbers from 0 to k - 1 and a paper of k show that k is the count of the fewest hues."""
    if not is_whole(k) or not is_hues(web, hues):
        return False
    return all([0 <= number < k for number in hues]) and is_paper(web, k, paper)
