"""[0.2] to [0.4] and stage 7: worths, the rings and numbers that show them, and the shortest kin."""

import copy
import itertools
import math
import unittest
from fractions import Fraction

from rillturn.heights import longest
from rillturn.kin import kin
from rillturn.webs import is_ring
from rillturn.worths import shortest, worth, worth_right
from tests.samples import (
    BARE, FIVE_RING, JUST_MANY_KINS, NAMED_WEBS, NINE_ALONE, NINE_RING, NINE_ROW, PATH, SIX, SPINDLE, SQUARE, STAR,
    THREE_PIECES, TRIANGLE, TWENTY_MIXED, TWO, TWO_RINGS, WHEEL, as_pair, leads, mixed_falls, mixed_webs, slow_falls,
    slow_height, slow_kin, slow_ring_worth, slow_rings, slow_springs, slow_turned, slow_worth, small_webs, turned_rings,
)

MORE_WEBS = NAMED_WEBS + [NINE_ROW, STAR, TWO_RINGS, SIX, JUST_MANY_KINS]
NO_RINGS = [BARE, NINE_ALONE, TWO, PATH, NINE_ROW, STAR, (5, ((0, 4), (1, 3)))]
ODD_PAIRS = [
    (0, 0), (0, 1), (1, 0), (1, 1), (2, 1), (3, 1), (4, 1), (5, 1), (9, 1), (5, 2), (7, 2), (9, 2), (7, 3), (8, 3),
    (9, 4), (4, 2), (6, 2), (6, 3), (8, 4), (10, 4), (-3, -1), (3, -1), (-2, 1), (-5, -2), (-2, -1), (2, 0), (3, 0),
    (10 ** 18, 1), (10 ** 18, 10 ** 18), (10 ** 18, 10 ** 18 - 1), (-(10 ** 18), 1), (3 * 10 ** 17, 10 ** 17),
]


def slow_keeps(web, fall, pair, numbers):
    top, bottom = pair
    if len(numbers) != web[0]:
        return False
    return all(bottom <= numbers[b] - numbers[a] <= top - bottom for a, b in leads(web, fall))


def slow_worth_right(web, fall, pair, ring, numbers):
    """Whether a pair is the worth, shown so, with all rings being gone through."""
    rings = slow_rings(web)
    if pair[1] < 1 or pair != as_pair(slow_worth(web, fall)) or not slow_keeps(web, fall, pair, numbers):
        return False
    if ring is None or not rings:
        return ring is None and not rings
    if not any(ring in turned_rings(each) for each in rings):
        return False
    return slow_ring_worth(web, fall, ring) == Fraction(*pair)


class Worth(unittest.TestCase):
    def test_examples(self):
        self.assertEqual(worth(BARE, ()), ((1, 1), None, (0,)))
        self.assertEqual(worth(NINE_ALONE, ()), ((1, 1), None, (0,) * 9))
        self.assertEqual(worth(TWO, (1,)), ((2, 1), None, (0, 1)))
        self.assertEqual(worth(TWO, (0,)), ((2, 1), None, (1, 0)))
        self.assertEqual(worth(PATH, (1, 0, 1)), ((2, 1), None, (0, 1, 0, 1)))
        for web, fall, wanted in [
            (TRIANGLE, (1, 1, 1), (3, 1)), (SQUARE, (1, 1, 0, 1), (2, 1)), (SQUARE, (1, 1, 1, 1), (4, 1)),
            (FIVE_RING, (1, 1, 1, 1, 1), (5, 1)), (FIVE_RING, (1, 1, 0, 1, 1), (5, 2)), (NINE_RING, (1,) * 9, (9, 1)),
            # Six ties, two along: 6 by 2 is (3, 1).
            ((6, ((0, 1), (0, 5), (1, 2), (2, 3), (3, 4), (4, 5))), (1, 1, 1, 1, 1, 0), (3, 1)),
            (SIX, (1,) * 15, (6, 1)),
        ]:
            told = worth(web, fall)
            self.assertEqual(told[0], wanted, (web, fall))
            self.assertEqual(slow_ring_worth(web, fall, told[1]), Fraction(*wanted))

    def check(self, web, fall):
        told = worth(web, fall)
        self.assertIs(told.__class__, tuple)
        pair, ring, numbers = told
        wanted = slow_worth(web, fall)
        self.assertEqual(pair, as_pair(wanted), (web, fall))
        if slow_rings(web):
            self.assertIs(is_ring(web, ring), True, (web, fall, ring))
            self.assertEqual(slow_ring_worth(web, fall, ring), wanted)
        else:
            self.assertIs(ring, None)
        self.assertIs(numbers.__class__, tuple)
        self.assertTrue(slow_keeps(web, fall, pair, numbers), (web, fall, told))
        self.assertEqual(min(numbers), 0, (web, fall, told))
        self.assertIs(worth_right(web, fall, pair, ring, numbers), True, (web, fall, told))
        return pair

    def test_every_fall_of_every_small_web(self):
        for web in small_webs(4) + [FIVE_RING, THREE_PIECES]:
            for fall in slow_falls(web):
                self.check(web, fall)

    def test_mixed_falls(self):
        met = set()
        for web in MORE_WEBS + mixed_webs(120, 131):
            for fall in mixed_falls(web, 3, 132):
                met.add(self.check(web, fall))
        self.assertGreater(len(met), 8)
        self.assertTrue(any(bottom > 1 for top, bottom in met))

    def test_every_worth_of_the_ring_of_nine(self):
        for led in range(1, 9):
            fall = tuple(1 if at < led else 0 for at in (0, 8, 1, 2, 3, 4, 5, 6, 7))
            fall = fall[:1] + (1 - fall[1],) + fall[2:]
            self.assertEqual(self.check(NINE_RING, fall), as_pair(Fraction(9, min(led, 9 - led))))

    def test_several_pieces(self):
        # One ring of four has a worth of 2, the other one of 4.
        fall = (0, 0, 1, 1, 1, 1, 0, 1)
        self.assertEqual([slow_ring_worth(TWO_RINGS, fall, ring) for ring in slow_rings(TWO_RINGS)], [2, 4])
        self.assertEqual(self.check(TWO_RINGS, fall), (4, 1))
        for fall in mixed_falls(TWO_RINGS, 40, 133):
            self.check(TWO_RINGS, fall)

    def test_kin_have_the_same_worth(self):
        for web in [SQUARE, FIVE_RING, WHEEL, SPINDLE, THREE_PIECES, TWO_RINGS] + mixed_webs(20, 134):
            fall = mixed_falls(web, 1, 135)[0]
            for other in sorted(slow_kin(web, fall, 40)):
                self.assertEqual(worth(web, other)[0], worth(web, fall)[0])

    def test_the_same_answer_again_and_nothing_changed(self):
        for web in mixed_webs(20, 136):
            fall = mixed_falls(web, 1, 137)[0]
            kept = copy.deepcopy((web, fall))
            self.assertEqual(worth(web, fall), worth(web, fall))
            self.assertEqual((web, fall), kept)


class WorthRight(unittest.TestCase):
    def compare(self, web, fall, pair, ring, numbers):
        wanted = slow_worth_right(web, fall, pair, ring, numbers)
        told = worth_right(web, fall, pair, ring, numbers)
        self.assertIs(told, wanted, (web, fall, pair, ring, numbers))
        return wanted

    def web_falls(self):
        pairs = [(web, fall) for web in small_webs(3) + [SQUARE, FIVE_RING] for fall in slow_falls(web)]
        return pairs + [(web, fall) for web in MORE_WEBS + mixed_webs(12, 138) for fall in mixed_falls(web, 2, 139)]

    def test_the_least_number_being_any(self):
        for web, fall in self.web_falls():
            pair, ring, numbers = worth(web, fall)
            for off in (-(10 ** 18), -5, -1, 1, 7, 10 ** 18 - 100):
                moved = tuple(number + off for number in numbers)
                self.assertIs(worth_right(web, fall, pair, ring, moved), True, (web, fall, moved))

    def test_one_number_changed(self):
        answers = []
        for web, fall in self.web_falls():
            pair, ring, numbers = worth(web, fall)
            for at in range(web[0]):
                for number in [-(10 ** 18), -1, 10 ** 18] + [numbers[at] + off for off in (-3, -2, -1, 1, 2, 3)]:
                    changed = numbers[:at] + (number,) + numbers[at + 1:]
                    answers.append(self.compare(web, fall, pair, ring, changed))
        self.assertGreater(min(answers.count(True), answers.count(False)), 50)

    def test_numbers_too_few_or_too_many(self):
        for web, fall in self.web_falls():
            pair, ring, numbers = worth(web, fall)
            for wrong in [(), numbers[:-1], numbers[1:], numbers + (0,), numbers + numbers, (0,) + numbers]:
                self.assertIs(worth_right(web, fall, pair, ring, wrong), False, (web, fall, wrong))

    def test_other_ratios(self):
        for web, fall in self.web_falls():
            pair, ring, numbers = worth(web, fall)
            for other in ODD_PAIRS:
                told = worth_right(web, fall, other, ring, numbers)
                self.assertIs(told, other == pair, (web, fall, other))
                # Of a bottom of 1 they make numbers that keep to any greater ratio, which is not the worth still.
                if pair[1] == 1 and other[1] >= 1 and other[0] > other[1] * pair[0]:
                    many = tuple(number * other[1] for number in numbers)
                    self.assertTrue(slow_keeps(web, fall, other, many))
                    self.assertIs(worth_right(web, fall, other, ring, many), False, (web, fall, other))

    def test_ratios_not_in_lowest_terms(self):
        for web, fall in self.web_falls():
            (top, bottom), ring, numbers = worth(web, fall)
            for times in (-1, 2, 3, 10 ** 17):
                many = tuple(number * times for number in numbers)
                self.assertIs(worth_right(web, fall, (top * times, bottom * times), ring, many), False)
                self.assertIs(worth_right(web, fall, (top * times, bottom * times), ring, numbers), False)

    def test_bottoms_of_0_and_below(self):
        for top in (-3, -1, 0, 1, 2, 3):
            for bottom in (0, -1, -2, -(10 ** 18)):
                for web, fall in [(BARE, ()), (NINE_ALONE, ()), (TWO, (1,)), (TRIANGLE, (1, 1, 1))]:
                    pair, ring, numbers = worth(web, fall)
                    self.assertIs(worth_right(web, fall, (top, bottom), ring, numbers), False)
                    self.assertIs(worth_right(web, fall, (top, bottom), ring, (0,) * web[0]), False)

    def test_rings(self):
        answers = []
        for web, fall in self.web_falls():
            pair, ring, numbers = worth(web, fall)
            for each in slow_rings(web)[:30]:
                for row in turned_rings(each)[::3]:
                    answers.append(self.compare(web, fall, pair, row, numbers))
        self.assertGreater(min(answers.count(True), answers.count(False)), 50)

    def test_rings_that_are_none(self):
        for web, fall in self.web_falls():
            pair, ring, numbers = worth(web, fall)
            rows = [(), (0,), (0, 1), (0, 1, 0), (0, 0, 0), (-1, -2, -3), (0, 1, 9), (0, 1, 10 ** 18)]
            rows.append(tuple(range(web[0])))
            if ring is not None:
                rows += [ring[:-1], ring + ring[:1], ring + ring, tuple(place - web[0] for place in ring)]
                rows += [ring[:at] + (number,) + ring[at + 1:] for at in range(len(ring)) for number in range(-1, 10)]
            for row in rows:
                self.compare(web, fall, pair, row, numbers)

    def test_none_for_a_ring(self):
        for web, fall in self.web_falls():
            pair, ring, numbers = worth(web, fall)
            self.assertIs(worth_right(web, fall, pair, None, numbers), ring is None, (web, fall))
        # All rings of the square have the worth of a web without one, but there is one.
        self.assertIs(worth_right(SQUARE, (1, 1, 0, 1), (2, 1), None, (0, 1, 0, 1)), False)
        self.assertIs(worth_right(SQUARE, (1, 1, 0, 1), (2, 1), (0, 1, 2, 3), (0, 1, 0, 1)), True)

    def test_webs_without_a_ring(self):
        for web in NO_RINGS:
            for fall in mixed_falls(web, 3, 140):
                pair, ring, numbers = worth(web, fall)
                self.assertEqual((pair, ring), ((2, 1) if web[1] else (1, 1), None))
                for other in ODD_PAIRS:
                    self.assertIs(worth_right(web, fall, other, None, numbers), other == pair, (web, other))
                    self.assertIs(worth_right(web, fall, other, (0, 1, 2), numbers), False, (web, other))
        self.assertIs(worth_right(NINE_ALONE, (), (1, 1), None, (3, -7, 0, 0, 10 ** 18, 5, 5, -(10 ** 18), 1)), True)

    def test_what_it_lets_by_is_so(self):
        for web in [TRIANGLE, SQUARE, PATH, (3, ((0, 1), (1, 2)))]:
            for fall in slow_falls(web):
                for numbers in itertools.product(range(4), repeat=web[0]):
                    for pair in [(2, 1), (3, 1), (4, 1), (3, 2), (5, 2)]:
                        for ring in (None,) + slow_rings(web):
                            self.compare(web, fall, pair, ring, numbers)

    def test_other_kinds(self):
        fall, pair, ring, numbers = (1, 1, 1), (3, 1), (0, 1, 2), (0, 1, 2)
        self.assertIs(worth_right(TRIANGLE, fall, pair, ring, numbers), True)
        for wrong in [[3, 1], (3, True), (3,), (3, 1, 1), None, 3, "31", ("3", "1"), (None, 1)]:
            self.assertIs(worth_right(TRIANGLE, fall, wrong, ring, numbers), False, wrong)
        for wrong in [[0, 1, 2], (0, True, 2), (False, 1, 2), "012", 0, {0: 1}, ("0", "1", "2")]:
            self.assertIs(worth_right(TRIANGLE, fall, pair, wrong, numbers), False, wrong)
        for wrong in [[0, 1, 2], (0, True, 2), (False, 1, 2), "012", None, ("0", "1", "2")]:
            self.assertIs(worth_right(TRIANGLE, fall, pair, ring, wrong), False, wrong)


class Shortest(unittest.TestCase):
    def test_examples(self):
        self.assertEqual(shortest(BARE, ()), (0, (), []))
        self.assertEqual(shortest(NINE_ALONE, ()), (0, (), []))
        self.assertEqual(shortest(TWO, (1,))[0], 1)
        self.assertEqual(shortest(PATH, (1, 1, 1))[0], 1)
        self.assertEqual(shortest(TRIANGLE, (1, 1, 1))[0], 2)
        self.assertEqual(shortest(FIVE_RING, (1, 1, 0, 1, 1))[0], 2)
        self.assertEqual(shortest(NINE_RING, (1,) * 9)[0], 8)

    def check(self, web, fall, found):
        told = shortest(web, fall)
        self.assertIs(told.__class__, tuple)
        steps, other, row = told
        self.assertEqual(steps, math.ceil(slow_worth(web, fall)) - 1, (web, fall))
        self.assertIs(row.__class__, list)
        at = fall
        for place in row:
            self.assertIn(place, slow_springs(web, at))
            at = slow_turned(web, at, place)
        self.assertEqual(at, other, (web, fall, told))
        self.assertEqual(max(slow_height(web, other, place) for place in range(web[0])), steps, (web, fall, told))
        self.assertEqual(len(row), len(kin(web, fall, other)[1]))
        if found is not None:
            self.assertEqual(len(row), found[other], (web, fall, told))

    def test_every_fall_of_every_small_web(self):
        for web in small_webs(4) + [FIVE_RING, THREE_PIECES]:
            for fall in slow_falls(web):
                self.check(web, fall, slow_kin(web, fall))

    def test_mixed_falls(self):
        for web in MORE_WEBS + mixed_webs(80, 141):
            for fall in mixed_falls(web, 3, 142):
                self.check(web, fall, slow_kin(web, fall) if len(web[1]) <= 9 else None)

    def test_no_kin_has_fewer(self):
        more = [FIVE_RING, THREE_PIECES, NINE_RING, NINE_ROW, WHEEL, SPINDLE, TWO_RINGS, TWENTY_MIXED]
        for web in small_webs(4) + more:
            for fall in mixed_falls(web, 3, 143):
                steps = [longest(web, other)[0] for other in slow_kin(web, fall)]
                self.assertEqual(min(steps), shortest(web, fall)[0], (web, fall))

    def test_a_list_of_the_askers_own_and_nothing_changed(self):
        for web in [BARE, TWO, PATH, WHEEL, NINE_RING] + mixed_webs(10, 144):
            fall = mixed_falls(web, 1, 145)[0]
            kept = copy.deepcopy((web, fall))
            told = shortest(web, fall)
            again = copy.deepcopy(told)
            told[2].append(5)
            told[2].insert(0, None)
            self.assertEqual(shortest(web, fall), again)
            self.assertEqual((web, fall), kept)


if __name__ == "__main__":
    unittest.main()
