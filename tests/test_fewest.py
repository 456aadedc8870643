"""[0.2] to [0.4] and stage 3: the fewest hues, their papers, and the judge of both."""

import copy
import itertools
import unittest

from rillturn.fewest import fewest, fewest_right
from rillturn.heights import longest
from rillturn.hues import hued, is_hues
from rillturn.webs import drawn
from tests.samples import (
    BARE, FIVE_RING, NAMED_WEBS, NINE_ALONE, NINE_RING, PATH, SIX_CROWD, SPINDLE, SQUARE, THREE_PIECES, TRIANGLE,
    TWENTY, TWENTY_MIXED, TWO, WHEEL, mixed_webs, numbers_from, slow_has_hues, slow_paper, small_webs, some_falls,
)

ODD_NUMBERS = [-(10 ** 18), -9, -2, -1, 0, 1, 2, 3, 4, 5, 8, 9, 10, 10 ** 18]

# Of the ring of five: 0 and 2 drawn together leave a triangle of 0, 2, 3; tied they make one with 1.
RING_HUES = (0, 1, 0, 1, 2)
RING_PAPER = ("part", 0, 2, ("crowd", (0, 2, 3)), ("crowd", (0, 1, 2)))


def changed_by(thing, change):
    """All copies of a paper, or of a thing in it, in which one number, at any depth, is changed."""
    if isinstance(thing, str):
        return []
    if isinstance(thing, int):
        return [change(thing)]
    found = []
    for at, part in enumerate(thing):
        found.extend(thing[:at] + (other,) + thing[at + 1:] for other in changed_by(part, change))
    return found


def all_changed(paper):
    """All papers in which one number, at any depth, is made another one."""
    found = []
    for off in (-3, -2, -1, 1, 2, 3):
        found.extend(changed_by(paper, lambda number: number + off))
    for odd in ODD_NUMBERS:
        found.extend(changed_by(paper, lambda number: odd))
    return [changed for changed in found if changed != paper]


def all_exchanged(paper):
    """All papers in which the halves of one part, at any depth, are exchanged."""
    if paper[0] == "crowd":
        return []
    word, a, b, one, other = paper
    found = [(word, a, b, other, one)]
    found.extend((word, a, b, changed, other) for changed in all_exchanged(one))
    found.extend((word, a, b, one, changed) for changed in all_exchanged(other))
    return found


def all_crowds_changed(paper):
    """All papers in which one crowd, at any depth, has a place less or more, or is in another order."""
    if paper[0] == "part":
        word, a, b, one, other = paper
        found = [(word, a, b, changed, other) for changed in all_crowds_changed(one)]
        return found + [(word, a, b, one, changed) for changed in all_crowds_changed(other)]
    crowd = paper[1]
    rows = [crowd[:at] + crowd[at + 1:] for at in range(len(crowd))]
    rows += [tuple(sorted(crowd + (place,))) for place in range(9)]
    rows += [crowd + crowd[-1:], crowd[::-1], crowd[1:] + crowd[:1]]
    return [("crowd", row) for row in rows if row != crowd]


def mixed_paper(row, many, depth):
    """A paper of one of the two forms, its numbers mostly places."""
    def number():
        return next(row) % (max(many, 0) + 2) - 1

    if depth == 0 or next(row) % 3 == 0:
        crowd = tuple(number() for _ in range(next(row) % 4))
        return ("crowd", crowd if next(row) % 4 == 0 else tuple(sorted(set(crowd))))
    a, b = number(), number()
    halves = [mixed_paper(row, many - 1, depth - 1), mixed_paper(row, many, depth - 1)]
    return ("part", min(a, b), max(a, b), halves[0], halves[1])


def trimmed(paper, k):
    """A paper in which each crowd has its first k places alone."""
    if paper[0] == "crowd":
        return ("crowd", paper[1][:k])
    return paper[:3] + (trimmed(paper[3], k), trimmed(paper[4], k))


def made_paper(row, web, k, depth):
    """A paper of k with parts by whatever two places, told papers being at their ends."""
    pairs = [pair for pair in itertools.combinations(range(web[0]), 2) if pair not in web[1]]
    if depth == 0 or not pairs:
        return trimmed(fewest(web)[2], k)
    a, b = pairs[next(row) % len(pairs)]
    more = (web[0], tuple(sorted(web[1] + ((a, b),))))
    return ("part", a, b, made_paper(row, drawn(web, a, b), k, depth - 1), made_paper(row, more, k, depth - 1))


def depth_of(paper):
    return 0 if paper[0] == "crowd" else 1 + max(depth_of(paper[3]), depth_of(paper[4]))


class Fewest(unittest.TestCase):
    def test_how_many(self):
        for web, k in [
            (BARE, 1), (NINE_ALONE, 1), (TWO, 2), (PATH, 2), (SQUARE, 2), (TRIANGLE, 3), (THREE_PIECES, 3),
            (FIVE_RING, 3), (NINE_RING, 3), (WHEEL, 4), (SPINDLE, 4), (SIX_CROWD, 6), (TWENTY, 4), (TWENTY_MIXED, 3),
        ]:
            self.assertEqual(fewest(web)[0], k, web)
        for many in range(1, 7):
            web = (many, tuple(itertools.combinations(range(many), 2)))
            self.assertEqual(fewest(web), (many, fewest(web)[1], ("crowd", tuple(range(many)))))

    def check(self, web):
        told = fewest(web)
        self.assertIs(told.__class__, tuple)
        k, hues, paper = told
        self.assertIs(is_hues(web, hues), True, web)
        self.assertEqual(set(hues), set(range(k)), web)
        self.assertTrue(slow_paper(web, k, paper), (web, told))
        self.assertIs(fewest_right(web, k, hues, paper), True, (web, told))
        # Beyond this the slow search takes too long; the paper, slowly judged, shows it still.
        if (k - 1) ** web[0] <= 20000:
            self.assertFalse(slow_has_hues(web, k - 1), (web, k))
        self.assertEqual(fewest(web), told)
        return paper

    def test_all_small_webs(self):
        for web in small_webs(5):
            self.check(web)

    def test_named_webs(self):
        for web in NAMED_WEBS:
            self.check(web)
        self.assertFalse(slow_has_hues(SPINDLE, 3))
        self.assertFalse(slow_has_hues(TWENTY, 3))

    def test_mixed_webs_and_papers_with_parts(self):
        depths = [depth_of(self.check(web)) for web in mixed_webs(400, 31)]
        self.assertGreater(max(depths), 1)

    def test_more_than_20_ties_within_a_paper(self):
        # The wheel, and nine ties more at the other three places.
        web = (9, tuple(sorted(WHEEL[1] + ((0, 6), (0, 7), (0, 8), (1, 6), (1, 7), (1, 8), (3, 6), (3, 7), (3, 8)))))
        self.assertEqual(fewest(web)[0], 4)
        self.check(web)
        self.check(TWENTY_MIXED)
        # Two of a web of 20 ties part it, so that one half is a paper for a web of 21.
        k, hues, paper = fewest(TWENTY)
        drawn_paper = fewest((8, tuple(tie for tie in TWENTY[1] if tie[1] < 8)))[2]
        longer = ("part", 7, 8, drawn_paper, paper)
        self.assertTrue(slow_paper(TWENTY, k, longer))
        self.assertIs(fewest_right(TWENTY, k, hues, longer), True)


class NoFallHasAShorterLongestWay(unittest.TestCase):
    def test_all_falls_of_small_webs(self):
        for web in small_webs(4) + [FIVE_RING]:
            k = fewest(web)[0]
            steps = [longest(web, fall)[0] for fall in some_falls(web, 0, 0)]
            self.assertEqual(min(steps), k - 1, web)

    def test_mixed_falls(self):
        for web in NAMED_WEBS + mixed_webs(60, 32):
            k, hues, paper = fewest(web)
            self.assertEqual(longest(web, hued(web, hues))[0], k - 1, web)
            for fall in some_falls(web, 10, 33):
                self.assertGreaterEqual(longest(web, fall)[0], k - 1, (web, fall))


class FewestRight(unittest.TestCase):
    def right(self, k, hues, paper):
        """Of the ring of five."""
        return fewest_right(FIVE_RING, k, hues, paper)

    def test_what_is_right(self):
        self.assertIs(self.right(3, RING_HUES, RING_PAPER), True)
        self.assertIs(self.right(3, (2, 1, 2, 1, 0), RING_PAPER), True)
        self.assertIs(fewest_right(BARE, 1, (0,), ("crowd", (0,))), True)
        for place in range(-2, 12):
            right = fewest_right(NINE_ALONE, 1, (0,) * 9, ("crowd", (place,)))
            self.assertIs(right, 0 <= place < 9, place)

    def test_another_k(self):
        for web in NAMED_WEBS:
            k, hues, paper = fewest(web)
            for other in [-1, 0, 1, 2, 3, 4, 5, 6, 7, 8, 9, 10]:
                self.assertIs(fewest_right(web, other, hues, paper), other == k, (web, other))

    def test_k_of_0(self):
        for hues in [(), (0,), (-1,), (0, 0)]:
            for crowd in [(), (0,)]:
                self.assertIs(fewest_right(BARE, 0, hues, ("crowd", crowd)), False, (hues, crowd))

    def test_a_k_that_hues_fit_but_no_paper(self):
        # Four hues do for the ring of five, but no paper shows that three don't.
        hues = (0, 1, 2, 3, 1)
        self.assertIs(self.right(4, hues, RING_PAPER), False)
        for crowd in itertools.combinations(range(5), 4):
            self.assertIs(self.right(4, hues, ("crowd", crowd)), False)
        # Two are shown to be needed, but don't do.
        for hues in itertools.product(range(2), repeat=5):
            self.assertIs(self.right(2, hues, ("crowd", (0, 1))), False)

    def test_every_tuple_of_hues(self):
        for hues in itertools.product(range(-1, 4), repeat=5):
            wanted = all(0 <= number <= 2 for number in hues) and all(hues[a] != hues[b] for a, b in FIVE_RING[1])
            self.assertIs(self.right(3, hues, RING_PAPER), wanted, hues)

    def test_one_hue_changed(self):
        for web in NAMED_WEBS + mixed_webs(20, 34):
            k, hues, paper = fewest(web)
            for at in range(web[0]):
                for number in ODD_NUMBERS:
                    changed = hues[:at] + (number,) + hues[at + 1:]
                    wanted = 0 <= number < k and all(changed[a] != changed[b] for a, b in web[1])
                    self.assertIs(fewest_right(web, k, changed, paper), wanted, (web, changed))

    def test_one_hue_more_or_less(self):
        for web in NAMED_WEBS:
            k, hues, paper = fewest(web)
            for wrong in [(), hues[:-1], hues[1:], hues + (0,), hues + hues, (0,) + hues]:
                self.assertIs(fewest_right(web, k, wrong, paper), False, (web, wrong))

    def compare(self, web, k, hues, paper):
        wanted = slow_paper(web, k, paper)
        self.assertIs(fewest_right(web, k, hues, paper), wanted, (web, k, paper))
        return wanted

    def test_papers_with_one_number_changed_at_any_depth(self):
        for web in small_webs(3) + NAMED_WEBS + mixed_webs(60, 35):
            k, hues, paper = fewest(web)
            for changed in all_changed(paper):
                self.compare(web, k, hues, changed)

    def test_papers_with_halves_exchanged(self):
        answers = []
        for web in NAMED_WEBS + mixed_webs(200, 36):
            k, hues, paper = fewest(web)
            for changed in all_exchanged(paper):
                answers.append(self.compare(web, k, hues, changed))
        self.assertIn(False, answers)
        self.assertIs(self.right(3, RING_HUES, ("part", 0, 2) + RING_PAPER[:2:-1]), False)

    def test_papers_with_a_crowd_changed(self):
        for web in NAMED_WEBS + mixed_webs(60, 37):
            k, hues, paper = fewest(web)
            for changed in all_crowds_changed(paper):
                self.compare(web, k, hues, changed)

    def test_crowds_that_do_not_rise(self):
        for crowd in itertools.product(range(-1, 4), repeat=3):
            right = fewest_right(TRIANGLE, 3, (0, 1, 2), ("crowd", crowd))
            self.assertIs(right, crowd == (0, 1, 2), crowd)

    def test_parts_of_tied_places_and_of_no_places(self):
        halves = RING_PAPER[3:]
        for a in range(-6, 8):
            for b in range(-6, 8):
                paper = ("part", a, b) + halves
                self.assertIs(self.right(3, RING_HUES, paper), slow_paper(FIVE_RING, 3, paper), paper)
        for a, b in [(2, 0), (0, 0), (0, 1), (1, 0), (0, 5), (-1, 2), (-5, 2), (0, -3), (0, 10 ** 18)]:
            self.assertIs(self.right(3, RING_HUES, ("part", a, b) + halves), False, (a, b))
        # Both halves would do for the triangle whatever the places, but all of them are tied.
        whole = ("crowd", (0, 1, 2))
        for a, b in itertools.product(range(-1, 4), repeat=2):
            self.assertIs(fewest_right(TRIANGLE, 3, (0, 1, 2), ("part", a, b, whole, whole)), False, (a, b))
        self.assertIs(fewest_right(BARE, 1, (0,), ("part", 0, 0, ("crowd", (0,)), ("crowd", (0,)))), False)

    def test_both_halves_are_looked_at(self):
        good = RING_PAPER
        for bad in [("crowd", (0, 1)), ("crowd", ()), ("crowd", (0, 1, 9)), ("part", 0, 1, good, good)]:
            self.assertIs(self.right(3, RING_HUES, ("part", 0, 2, bad, good[4])), False, bad)
            self.assertIs(self.right(3, RING_HUES, ("part", 0, 2, good[3], bad)), False, bad)
        self.assertIs(self.right(3, RING_HUES, ("crowd", (0, 1, 2))), False)

    def test_places_are_numbered_anew_where_two_are_drawn_together(self):
        # 0 and 1 are alone and drawn together, so that the triangle lies at 1, 2, 3 then.
        web = (5, ((2, 3), (2, 4), (3, 4)))
        for one in [(1, 2, 3), (2, 3, 4), (0, 1, 2)]:
            for other in [(1, 2, 3), (2, 3, 4), (0, 1, 2)]:
                paper = ("part", 0, 1, ("crowd", one), ("crowd", other))
                wanted = one == (1, 2, 3) and other == (2, 3, 4)
                self.assertIs(fewest_right(web, 3, (0, 0, 0, 1, 2), paper), wanted, paper)

    def test_papers_made_of_told_ones(self):
        for web in [(4, ()), PATH, SQUARE, FIVE_RING, WHEEL, THREE_PIECES] + mixed_webs(30, 38):
            k, hues, paper = fewest(web)
            for a, b in itertools.combinations(range(web[0]), 2):
                self.compare(web, k, hues, ("part", a, b, paper, paper))

    def test_papers_with_parts_by_whatever_places(self):
        row = numbers_from(42)
        for web in NAMED_WEBS + mixed_webs(30, 43):
            k, hues, told = fewest(web)
            for depth in (1, 2, 4):
                paper = made_paper(row, web, k, depth)
                self.assertIs(self.compare(web, k, hues, paper), True, (web, paper))
                for changed in all_changed(paper)[::7] + all_exchanged(paper) + all_crowds_changed(paper)[::5]:
                    self.compare(web, k, hues, changed)

    def test_mixed_papers(self):
        row = numbers_from(39)
        counts = {True: 0, False: 0}
        for web in small_webs(4) + [FIVE_RING, WHEEL, THREE_PIECES] + mixed_webs(20, 40):
            k, hues, paper = fewest(web)
            for _ in range(40):
                counts[self.compare(web, k, hues, mixed_paper(row, web[0], 4))] += 1
        self.assertGreater(min(counts.values()), 20)

    def test_what_it_lets_by_is_so(self):
        row = numbers_from(41)
        for web in small_webs(3) + [SQUARE, PATH, (4, ())]:
            true_k = fewest(web)[0]
            papers = [mixed_paper(row, web[0], 2) for _ in range(30)] + [fewest(web)[2]]
            for k in range(5):
                for hues in itertools.product(range(-1, k + 1), repeat=web[0]):
                    let_by = [paper for paper in papers if fewest_right(web, k, hues, paper)]
                    if let_by:
                        self.assertEqual(k, true_k, (web, hues, let_by[0]))

    def test_things_of_other_kinds_are_not_let_by(self):
        for paper in [
            ["crowd", (0, 1, 2)], ("crowd", [0, 1, 2]), ("crowd", (0, True, 2)), ("crowd", (False, 1, 2)), ("crowd",),
            ("crowd", (0, 1, 2), ()), ("part", (0, 1, 2)), ("crowds", (0, 1, 2)), (), None, "crowd", (0, 1, 2),
            ("crowd", None), ("crowd", "012"), ("crowd", ("0", "1", "2")),
        ]:
            self.assertIs(fewest_right(TRIANGLE, 3, (0, 1, 2), paper), False, paper)
        for paper in [
            list(RING_PAPER), RING_PAPER[:4], RING_PAPER + (0,), ("crowd",) + RING_PAPER[1:],
            ("part", False, 2) + RING_PAPER[3:], ("part", 0, 2, None, RING_PAPER[4]),
            ("part", 0, 2, RING_PAPER[3], ["crowd", (0, 1, 2)]),
        ]:
            self.assertIs(self.right(3, RING_HUES, paper), False, paper)
        self.assertIs(fewest_right(BARE, True, (0,), ("crowd", (0,))), False)
        self.assertIs(fewest_right(BARE, 1, (False,), ("crowd", (0,))), False)
        self.assertIs(fewest_right(BARE, 1, [0], ("crowd", (0,))), False)

    def test_the_same_answer_again_and_nothing_changed(self):
        for web in [FIVE_RING, WHEEL, SPINDLE]:
            k, hues, paper = fewest(web)
            kept = copy.deepcopy((web, hues, paper))
            self.assertIs(fewest_right(web, k, hues, paper), True)
            self.assertIs(fewest_right(web, k, hues, paper), True)
            self.assertEqual((web, hues, paper), kept)


if __name__ == "__main__":
    unittest.main()
