"""[0.2] to [0.4] and stage 8: hues round a ratio, the least worth of all, and the judge of its paper."""

import copy
import itertools
import math
import unittest
from fractions import Fraction

from rillturn.errors import Apart, TooMany
from rillturn.fewest import fewest
from rillturn.hues import hued
from rillturn.roundhues import is_round_hues, least_right, least_worth
from rillturn.seats import seated
from rillturn.webs import is_ring
from rillturn.worths import worth
from tests.samples import (
    BARE, FIVE_RING, JUST_MANY_KINS, NINE_ALONE, NINE_RING, NINE_ROW, OTHER_KINDS, PATH, SIX, SIX_CROWD, SPINDLE,
    SQUARE, STAR, THREE_PIECES, TRIANGLE, TWENTY, TWENTY_MIXED, TWO, TWO_RINGS, WHEEL, all_turned_rings, as_pair,
    is_whole_web, mixed_falls, mixed_webs, mixed_whole_webs, numbers_from, slow_falls, slow_kin_count, slow_ring_worth,
    slow_rings, slow_springs, slow_worth, small_webs, turned_rings,
)

RATIOS = [(1, 1), (2, 1), (3, 1), (4, 1), (2, 2), (3, 2), (4, 2), (5, 2), (3, 3), (6, 3), (7, 3)]
ODD_NUMBERS = [-(10 ** 18), -3, -2, -1, 0, 1, 2, 3, 4, 5, 6, 9, 10 ** 18]
FEW_KINS = [BARE, TWO, PATH, TRIANGLE, SQUARE, FIVE_RING, NINE_RING, NINE_ROW, STAR, WHEEL, SPINDLE]
APART_WEBS = [(2, ()), NINE_ALONE, THREE_PIECES, TWO_RINGS, SIX_CROWD]


def slow_round(web, top, bottom, thing):
    """Whether a tuple of numbers is hues round a ratio: going on or back, tied ones are bottom apart at least."""
    if len(thing) != web[0] or any(number not in range(top) for number in thing):
        return False
    return all(min((thing[a] - thing[b]) % top, (thing[b] - thing[a]) % top) >= bottom for a, b in web[1])


def slow_least(web):
    """The least worth of all falls of a small web, as a fraction."""
    return min(slow_worth(web, fall) for fall in slow_falls(web))


def slow_least_right(web, falls, pair, hues, paper):
    """Whether all is as told; the falls are those that are seated at 0."""
    top, bottom = pair
    if bottom < 1 or top < bottom or math.gcd(top, bottom) != 1 or not slow_round(web, top, bottom, hues):
        return False
    if [fall for fall, ring in paper] != falls:
        return False
    if not slow_rings(web):
        return pair == ((2, 1) if web[1] else (1, 1)) and all(ring is None for fall, ring in paper)
    rings = all_turned_rings(web)
    return all(ring in rings and slow_ring_worth(web, fall, ring) >= Fraction(top, bottom) for fall, ring in paper)


class IsRoundHues(unittest.TestCase):
    def test_examples(self):
        self.assertIs(is_round_hues(FIVE_RING, 5, 2, (0, 2, 4, 1, 3)), True)
        self.assertIs(is_round_hues(FIVE_RING, 5, 2, (0, 2, 4, 1, 2)), False)
        self.assertIs(is_round_hues(FIVE_RING, 3, 1, (0, 1, 0, 1, 2)), True)
        self.assertIs(is_round_hues(BARE, 1, 1, (0,)), True)
        self.assertIs(is_round_hues(BARE, 1, 1, (1,)), False)
        self.assertIs(is_round_hues(TWO, 1, 1, (0, 0)), False)
        self.assertIs(is_round_hues(TWO, 4, 2, (1, 3)), True)
        self.assertIs(is_round_hues(TWO, 4, 2, (0, 3)), False)
        self.assertIs(is_round_hues(TWO, 4, 2, (0, 1)), False)
        self.assertIs(is_round_hues(TRIANGLE, 3, 1, (2, 0, 1)), True)
        self.assertIs(is_round_hues(TRIANGLE, 3, 1, (2, 0, 3)), False)
        self.assertIs(is_round_hues(TRIANGLE, 3, 1, (1, 0, -1)), False)
        self.assertIs(is_round_hues(NINE_ALONE, 7, 7, (0, 1, 2, 3, 4, 5, 6, 0, 0)), True)

    def test_all_tuples_of_small_webs(self):
        for web in small_webs(3) + [SQUARE, PATH]:
            for top, bottom in RATIOS:
                for row in itertools.product(range(-1, top + 1), repeat=web[0]):
                    if web[0] == 4 and top > 5:
                        break
                    self.assertIs(is_round_hues(web, top, bottom, row), slow_round(web, top, bottom, row), (web, row))

    def test_mixed_numbers(self):
        row = numbers_from(151)
        answers = []
        for web in mixed_webs(200, 152):
            for top, bottom in [(4, 1), (9, 2), (12, 2), (20, 3), (10 ** 18, 1), (10 ** 18, 10 ** 17)]:
                thing = tuple(next(row) * next(row) % top for _ in range(web[0]))
                answers.append(slow_round(web, top, bottom, thing))
                self.assertIs(is_round_hues(web, top, bottom, thing), answers[-1], (web, top, bottom, thing))
        self.assertGreater(min(answers.count(True), answers.count(False)), 30)

    def test_other_lengths(self):
        for web in [BARE, TWO, FIVE_RING, NINE_ALONE]:
            top, bottom, hues = 5, 2, (0, 2, 4, 1, 3, 0, 2, 4, 1)[:web[0]]
            self.assertIs(is_round_hues(web, top, bottom, hues), True)
            for wrong in [(), hues[:-1], hues + (0,), hues + hues]:
                self.assertIs(is_round_hues(web, top, bottom, wrong), False, (web, wrong))

    def test_things_of_other_kinds(self):
        for thing in OTHER_KINDS:
            for web in [BARE, TRIANGLE, FIVE_RING, NINE_ALONE]:
                for top, bottom in [(1, 1), (5, 2), (100, 1)]:
                    self.assertIs(is_round_hues(web, top, bottom, thing), False, thing)
            wanted = not isinstance(thing, bool) and thing in (0, 1, 3)
            self.assertIs(is_round_hues(BARE, 5, 2, (thing,)), wanted, thing)
            self.assertIs(is_round_hues(TRIANGLE, 3, 1, (0, 2, thing)), thing is not True and thing == 1, thing)
        self.assertIs(is_round_hues(TRIANGLE, 3, 1, [0, 1, 2]), False)
        self.assertIs(is_round_hues(TRIANGLE, 3, 1, (0, True, 2)), False)
        self.assertIs(is_round_hues(TRIANGLE, 3, 1, (False, 1, 2)), False)

    def test_no_hues_are_round_what_is_no_ratio(self):
        for top, bottom in [(0, 0), (1, 0), (3, 0), (1, 2), (0, 1), (-1, 1), (-3, -1), (3, -1), (2, 3)]:
            for web in [BARE, TWO, NINE_ALONE]:
                self.assertIs(is_round_hues(web, top, bottom, (0,) * web[0]), False)
        for top, bottom in [(True, 1), (1, True), (2, True), (None, 1), (1, None), ("1", 1), (1, "1"), ((1,), 1), (1, [])]:
            self.assertIs(is_round_hues(BARE, top, bottom, (0,)), False)

    def test_the_fall_they_make_has_no_greater_worth(self):
        for web in [TWO, TRIANGLE, SQUARE, FIVE_RING, (4, ((0, 1), (0, 2), (0, 3))), THREE_PIECES, WHEEL]:
            for top, bottom in [(2, 1), (3, 1), (4, 1), (4, 2), (5, 2), (7, 3)]:
                if top ** web[0] > 20000:
                    continue
                for hues in itertools.product(range(top), repeat=web[0]):
                    if is_round_hues(web, top, bottom, hues):
                        fall = hued(web, hues)
                        self.assertLessEqual(slow_worth(web, fall), Fraction(top, bottom) if web[1] else 1)


class LeastWorth(unittest.TestCase):
    def test_examples(self):
        self.assertEqual(least_worth(BARE), ((1, 1), (0,), [((), None)]))
        self.assertEqual(least_worth(TWO)[0], (2, 1))
        self.assertEqual(least_worth(TWO)[2], [((1,), None)])
        for web, wanted in [
            (PATH, (2, 1)), (NINE_ROW, (2, 1)), (STAR, (2, 1)), (TRIANGLE, (3, 1)), (SQUARE, (2, 1)),
            (FIVE_RING, (5, 2)), (NINE_RING, (9, 4)), (WHEEL, (4, 1)), (SPINDLE, (7, 2)), (SIX, (6, 1)),
        ]:
            self.assertEqual(least_worth(web)[0], wanted, web)

    def check(self, web):
        told = least_worth(web)
        self.assertIs(told.__class__, tuple)
        pair, hues, paper = told
        self.assertEqual(math.gcd(*pair), 1)
        self.assertGreaterEqual(pair[1], 1)
        self.assertIs(is_round_hues(web, pair[0], pair[1], hues), True, (web, told))
        self.assertTrue(slow_round(web, pair[0], pair[1], hues), (web, told))
        self.assertIs(paper.__class__, list)
        self.assertTrue(all(line.__class__ is tuple and len(line) == 2 for line in paper))
        falls = [fall for fall, ring in paper]
        self.assertEqual(falls, sorted(set(falls)))
        self.assertEqual(falls, seated(web, 0))
        self.assertEqual(len(falls), slow_kin_count(web))
        self.assertTrue(all(slow_springs(web, fall) == (0,) for fall in falls))
        worths = [slow_worth(web, fall) for fall in falls]
        self.assertEqual(pair, as_pair(min(worths)), web)
        for fall, ring in paper:
            if slow_rings(web):
                self.assertIs(is_ring(web, ring), True)
                self.assertGreaterEqual(slow_ring_worth(web, fall, ring), min(worths))
            else:
                self.assertIs(ring, None)
        self.assertIs(least_right(web, pair, hues, paper), True, (web, told))
        self.assertEqual(math.ceil(min(worths)), fewest(web)[0], web)
        return pair

    def test_all_small_webs(self):
        for web in small_webs(4) + [FIVE_RING, WHEEL]:
            if is_whole_web(web):
                pair = self.check(web)
                self.assertEqual(pair, as_pair(slow_least(web)), web)

    def test_greater_webs(self):
        met = set()
        for web in FEW_KINS + mixed_whole_webs(80, 153):
            if slow_kin_count(web) <= 120:
                met.add(self.check(web))
        self.assertIn((5, 2), met)
        self.assertIn((3, 1), met)
        self.check(SIX)

    def test_no_fall_has_a_lesser_worth(self):
        for web in FEW_KINS + mixed_whole_webs(20, 154, 13):
            if slow_kin_count(web) <= 120:
                least = Fraction(*least_worth(web)[0])
                for fall in mixed_falls(web, 10, 155):
                    self.assertGreaterEqual(Fraction(*worth(web, fall)[0]), least, (web, fall))

    def test_no_hues_are_round_anything_less(self):
        four = tuple(itertools.combinations(range(4), 2))
        for web in [TRIANGLE, SQUARE, FIVE_RING, (4, four[:5]), (4, four)]:
            least = Fraction(*least_worth(web)[0])
            for top, bottom in itertools.product(range(1, 8), range(1, 4)):
                if top >= bottom and Fraction(top, bottom) < least:
                    rows = itertools.product(range(top), repeat=web[0])
                    self.assertFalse(any(slow_round(web, top, bottom, row) for row in rows), (web, top, bottom))

    def test_apart(self):
        apart = [web for web in small_webs(4) + mixed_webs(40, 156) if not is_whole_web(web)]
        for web in APART_WEBS + apart:
            with self.assertRaises(Apart) as caught:
                least_worth(web)
            self.assertIs(caught.exception.__class__, Apart)

    def test_too_many(self):
        webs = [web for web in mixed_whole_webs(60, 157) if slow_kin_count(web) > 120]
        webs += [JUST_MANY_KINS, TWENTY, TWENTY_MIXED]
        self.assertGreater(len(webs), 10)
        for web in webs:
            with self.assertRaises(TooMany) as caught:
                least_worth(web)
            self.assertIs(caught.exception.__class__, TooMany)

    def test_apart_comes_ahead_of_too_many(self):
        web = (9, tuple(sorted(SIX[1] + ((0, 6), (1, 6), (7, 8)))))
        self.assertGreater(slow_kin_count((7, tuple(tie for tie in web[1] if tie != (7, 8)))), 120)
        for asked in [lambda: least_worth(web), lambda: least_right(web, (6, 1), (0,) * 9, [])]:
            with self.assertRaises(Apart):
                asked()

    def test_lists_of_the_askers_own(self):
        for web in [BARE, TRIANGLE, FIVE_RING, WHEEL]:
            told = least_worth(web)
            again = copy.deepcopy(told)
            told[2].append(None)
            told[2][0] = "other"
            self.assertEqual(least_worth(web), again)


class LeastRight(unittest.TestCase):
    def compare(self, web, falls, pair, hues, paper):
        wanted = slow_least_right(web, falls, pair, hues, paper)
        kept = copy.deepcopy(paper)
        self.assertIs(least_right(web, pair, hues, paper), wanted, (web, pair, hues, paper))
        self.assertEqual(paper, kept)
        return wanted

    def webs(self):
        mixed = [web for web in mixed_whole_webs(30, 158, 12) if slow_kin_count(web) <= 16]
        self.assertGreater(len(mixed), 4)
        return FEW_KINS + mixed + [(4, ((0, 1), (0, 2), (0, 3))), (4, ((0, 1), (0, 2), (0, 3), (1, 2)))]

    def test_a_tuple_for_the_list(self):
        for web in self.webs():
            pair, hues, paper = least_worth(web)
            self.assertIs(least_right(web, pair, hues, tuple(paper)), True)

    def test_other_ratios(self):
        for web in self.webs():
            pair, hues, paper = least_worth(web)
            falls = seated(web, 0)
            for other in itertools.product(ODD_NUMBERS[1:-2], repeat=2):
                told = self.compare(web, falls, other, hues, paper)
                self.assertIs(told, other == pair, (web, other))
            for times in (-1, 2, 3, 10 ** 17):
                other = (pair[0] * times, pair[1] * times)
                self.assertIs(self.compare(web, falls, other, tuple(hue * times for hue in hues), paper), False)
                self.assertIs(self.compare(web, falls, other, hues, paper), False)

    def test_greater_ratios_with_hues_round_them(self):
        # Hues round 3 are there for the ring of five, but not each kin has a ring of such a worth.
        falls = seated(FIVE_RING, 0)
        paper = least_worth(FIVE_RING)[2]
        for pair, hues in [((3, 1), (0, 1, 0, 1, 2)), ((4, 1), (0, 1, 2, 3, 2)), ((8, 3), (0, 3, 6, 2, 5))]:
            self.assertTrue(slow_round(FIVE_RING, pair[0], pair[1], hues))
            self.assertIs(self.compare(FIVE_RING, falls, pair, hues, paper), False)
        # A web without a ring has one worth alone, whatever hues are around.
        self.assertIs(least_right(TWO, (3, 1), (0, 1), [((1,), None)]), False)
        self.assertIs(least_right(TWO, (2, 1), (0, 1), [((1,), None)]), True)
        self.assertIs(least_right(BARE, (2, 1), (0,), [((), None)]), False)
        self.assertIs(least_right(BARE, (1, 1), (0,), [((), None)]), True)

    def test_one_hue_changed(self):
        answers = []
        for web in self.webs():
            pair, hues, paper = least_worth(web)
            falls = seated(web, 0)
            for at in range(web[0]):
                for number in ODD_NUMBERS:
                    changed = hues[:at] + (number,) + hues[at + 1:]
                    answers.append(self.compare(web, falls, pair, changed, paper))
            for wrong in [(), hues[:-1], hues + (0,), hues + hues]:
                self.assertIs(self.compare(web, falls, pair, wrong, paper), False)
        self.assertGreater(min(answers.count(True), answers.count(False)), 50)

    def test_one_fall_changed(self):
        for web in self.webs():
            pair, hues, paper = least_worth(web)
            falls = seated(web, 0)
            for at, (fall, ring) in enumerate(paper[:8]):
                others = [fall[:k] + (1 - fall[k],) + fall[k + 1:] for k in range(len(fall))]
                for other in others + mixed_falls(web, 3, 159):
                    changed = paper[:at] + [(other, ring)] + paper[at + 1:]
                    self.assertIs(self.compare(web, falls, pair, hues, changed), other == fall)

    def test_one_ring_changed(self):
        answers = []
        for web in self.webs():
            pair, hues, paper = least_worth(web)
            falls = seated(web, 0)
            rings = [row for ring in slow_rings(web)[:9] for row in turned_rings(ring)[::4]]
            rows = rings + [None, (), (0,), (0, 1), (0, 1, 2), (2, 0, 1), (0, 1, 0), (-1, 0, 1), (0, 1, 10 ** 18)]
            for at, (fall, ring) in list(enumerate(paper))[:6]:
                more = [] if ring is None else [ring[:-1], ring + ring[:1], ring[:-1] + (9,), ring[1:] + ring[:1]]
                for row in rows + more:
                    changed = paper[:at] + [(fall, row)] + paper[at + 1:]
                    answers.append(self.compare(web, falls, pair, hues, changed))
        self.assertGreater(min(answers.count(True), answers.count(False)), 50)

    def test_pairs_left_out_put_twice_exchanged(self):
        for web in self.webs():
            pair, hues, paper = least_worth(web)
            falls = seated(web, 0)
            wrong = [paper[:at] + paper[at + 1:] for at in range(len(paper))]
            wrong += [paper[:at] + paper[at:at + 1] + paper[at:] for at in range(len(paper))]
            wrong += [paper[:at] + [paper[at + 1], paper[at]] + paper[at + 2:] for at in range(len(paper) - 1)]
            wrong += [[], paper + paper, paper[:-1] + paper[:1] if len(paper) > 1 else []]
            for changed in wrong:
                self.assertIs(self.compare(web, falls, pair, hues, changed), False, (web, changed))

    def test_none_just_where_the_web_has_no_ring(self):
        # All kins of a square with a worth of 2 have a ring still, which is to be told.
        pair, hues, paper = least_worth(SQUARE)
        self.assertEqual(pair, (2, 1))
        self.assertIs(least_right(SQUARE, pair, hues, [(fall, None) for fall, ring in paper]), False)
        self.assertIs(least_right(PATH, (2, 1), (0, 1, 0, 1), [((1, 1, 1), (0, 1, 2))]), False)
        self.assertIs(least_right(PATH, (2, 1), (0, 1, 0, 1), [((1, 1, 1), None)]), True)

    def test_apart_and_too_many_whatever_else_is_handed_in(self):
        for web, error in [(web, Apart) for web in APART_WEBS] + [(JUST_MANY_KINS, TooMany), (TWENTY_MIXED, TooMany)]:
            for pair in [(3, 1), (0, 0), (-1, 5)]:
                for hues in [(), (0,) * web[0]]:
                    with self.assertRaises(error) as caught:
                        least_right(web, pair, hues, [])
                    self.assertIs(caught.exception.__class__, error)

    def test_other_kinds(self):
        pair, hues, paper = least_worth(TRIANGLE)
        self.assertIs(least_right(TRIANGLE, pair, hues, paper), True)
        for wrong in [[3, 1], (3, True), (3,), (3, 1, 1), None, 3, "31", ("3", "1")]:
            self.assertIs(least_right(TRIANGLE, wrong, hues, paper), False, wrong)
        for wrong in [list(hues), None, "012", (0, True, 2), tuple(str(hue) for hue in hues)]:
            self.assertIs(least_right(TRIANGLE, pair, wrong, paper), False, wrong)
        fall, ring = paper[0]
        for wrong in [
            [fall, ring], (fall,), (fall, ring, ring), (list(fall), ring), (fall, list(ring)), None, (fall, None), fall,
            (tuple(bool(number) for number in fall), ring), (None, ring), (fall, (False, True, 2)),
        ]:
            self.assertIs(least_right(TRIANGLE, pair, hues, [wrong, paper[1]]), False, wrong)
        for wrong in [None, {}, "", 0]:
            self.assertIs(least_right(TRIANGLE, pair, hues, wrong), False, wrong)

    def test_what_it_lets_by_is_so(self):
        for web in [TWO, (3, ((0, 1), (1, 2))), TRIANGLE, SQUARE]:
            falls = seated(web, 0)
            least = as_pair(slow_least(web))
            rings = (None,) + slow_rings(web)
            for top, bottom in itertools.product(range(-1, 5), range(-1, 3)):
                for hues in itertools.product(range(max(top, 1)), repeat=web[0]):
                    for ring in rings:
                        paper = [(fall, ring) for fall in falls]
                        if self.compare(web, falls, (top, bottom), hues, paper):
                            self.assertEqual((top, bottom), least)


if __name__ == "__main__":
    unittest.main()
