"""[0.2] to [0.4] and stage 9: hue rows, and what they count."""

import copy
import itertools
import unittest

from rillturn.counts import falls_many, hue_row, hueings, kins_many, pairs_many, poled_many
from rillturn.errors import Apart, NoTie
from rillturn.poles import all_poled
from rillturn.seats import seated
from rillturn.turning import all_falls
from rillturn.webs import drawn, untied
from tests.samples import (
    ALL_NINE_PAIRS, BARE, FIVE_RING, JUST_MANY_KINS, NINE_ALONE, NINE_RING, NINE_ROW, PATH, SPINDLE, SQUARE, STAR,
    THREE_PIECES, TRIANGLE, TWO, TWO_RINGS, WHEEL, is_whole_web, leads, mixed_webs, mixed_whole_webs, slow_fall_count,
    slow_falls, slow_hueings, slow_kin_count, slow_mouths, slow_partings, slow_springs, small_webs,
)

FOURTEEN = (9, ALL_NINE_PAIRS[:14])
NAMED = [
    BARE, TWO, TRIANGLE, SQUARE, PATH, THREE_PIECES, NINE_ALONE, NINE_RING, FIVE_RING, WHEEL, SPINDLE, NINE_ROW, STAR,
    TWO_RINGS, JUST_MANY_KINS, FOURTEEN,
]
GREAT = [10, 37, 10 ** 6, 10 ** 18 - 1, 10 ** 18]


def some_webs():
    return NAMED + [web for web in mixed_webs(80, 171) if len(web[1]) <= 14]


def counted_hueings(web, k):
    """Of all tuples with numbers below k those that are hues, one by one."""
    rows = itertools.product(range(k), repeat=web[0])
    return sum(all(row[a] != row[b] for a, b in web[1]) for row in rows)


def counted_pairs(web, k):
    """Of all falls and all tuples with numbers below k those that go together, one by one."""
    rows = list(itertools.product(range(k), repeat=web[0]))
    found = 0
    for fall in slow_falls(web):
        pairs = leads(web, fall)
        found += sum(all(row[a] <= row[b] for a, b in pairs) for row in rows)
    return found


def slow_pairs(web, k):
    """The pairs by partings: each of j groups counts as many rows of j numbers below k as rise or stay."""
    total = 0
    for j, many in enumerate(slow_partings(web)):
        for taken in range(j):
            many *= -k - taken
        total += many
    return abs(total)


class HueRow(unittest.TestCase):
    def test_examples(self):
        self.assertEqual(hue_row(BARE), [0, 1])
        self.assertEqual(hue_row(TWO), [0, -1, 1])
        self.assertEqual(hue_row((2, ())), [0, 0, 1])
        self.assertEqual(hue_row(TRIANGLE), [0, 2, -3, 1])
        self.assertEqual(hue_row(SQUARE), [0, -3, 6, -4, 1])
        self.assertEqual(hue_row(PATH), [0, -1, 3, -3, 1])
        self.assertEqual(hue_row(NINE_ALONE), [0] * 9 + [1])

    def test_one_more_number_than_places(self):
        for web in small_webs(4) + some_webs():
            told = hue_row(web)
            self.assertIs(told.__class__, list)
            self.assertEqual(len(told), web[0] + 1)
            self.assertTrue(all(number.__class__ is int for number in told))

    def test_hueings_counted_one_by_one(self):
        for web in small_webs(4):
            for k in range(6):
                wanted = counted_hueings(web, k)
                row = hue_row(web)
                self.assertEqual(sum(number * k ** at for at, number in enumerate(row)), wanted, (web, k))
                self.assertEqual(hueings(web, k), wanted, (web, k))

    def test_greater_webs(self):
        for web in some_webs():
            row = hue_row(web)
            for k in list(range(12)) + GREAT:
                wanted = slow_hueings(web, k)
                self.assertEqual(sum(number * k ** at for at, number in enumerate(row)), wanted, (web, k))
                self.assertEqual(hueings(web, k), wanted, (web, k))

    def test_the_web_without_a_tie_less_the_web_drawn_together(self):
        for web in small_webs(4) + some_webs():
            for a, b in web[1]:
                together = hue_row(drawn(web, a, b)) + [0]
                wanted = [one - other for one, other in zip(hue_row(untied(web, a, b)), together)]
                self.assertEqual(hue_row(web), wanted, (web, a, b))

    def test_a_new_list_each_time(self):
        for web in [BARE, TWO, TRIANGLE, NINE_ALONE, FOURTEEN]:
            told = hue_row(web)
            again = list(told)
            told.append(7)
            told[0] = None
            self.assertEqual(hue_row(web), again)

    def test_no_hues_below_0(self):
        for web in some_webs():
            self.assertEqual(hueings(web, 0), 0)
            self.assertEqual(pairs_many(web, 0), 0)
        self.assertEqual(hueings(BARE, 10 ** 18), 10 ** 18)
        self.assertEqual(hueings(NINE_ALONE, 10 ** 18), 10 ** 162)


class Many(unittest.TestCase):
    def test_examples(self):
        self.assertEqual([falls_many(web) for web in (BARE, TWO, TRIANGLE, SQUARE, PATH, NINE_ALONE)], [1, 2, 6, 14, 8, 1])
        self.assertEqual([kins_many(web) for web in (BARE, TWO, TRIANGLE, SQUARE, PATH, NINE_RING)], [1, 1, 2, 3, 1, 8])
        self.assertEqual([poled_many(web) for web in (TWO, TRIANGLE, SQUARE, PATH, NINE_RING)], [1, 1, 1, 0, 1])
        self.assertEqual([pairs_many(web, 1) for web in (BARE, TWO, TRIANGLE, SQUARE)], [1, 2, 6, 14])
        self.assertEqual([pairs_many(web, 2) for web in (BARE, TWO, (2, ()))], [2, 6, 4])

    def test_falls(self):
        for web in small_webs(4) + [FIVE_RING, THREE_PIECES]:
            self.assertEqual(falls_many(web), len(slow_falls(web)), web)
        for web in some_webs():
            many = falls_many(web)
            self.assertEqual(many, slow_fall_count(web), web)
            if many <= 300:
                self.assertEqual(many, len(all_falls(web)), web)

    def test_kins(self):
        for web in small_webs(4) + some_webs() + mixed_whole_webs(30, 172, 14):
            if not is_whole_web(web):
                with self.assertRaises(Apart) as caught:
                    kins_many(web)
                self.assertIs(caught.exception.__class__, Apart)
                continue
            many = kins_many(web)
            self.assertEqual(many, slow_kin_count(web), web)
            if many <= 120:
                for place in range(0, web[0], 3):
                    self.assertEqual(many, len(seated(web, place)), (web, place))

    def test_poled(self):
        for web in small_webs(4) + NAMED + mixed_whole_webs(30, 173, 14):
            if not is_whole_web(web) or not web[1]:
                continue
            many = poled_many(web)
            if kins_many(web) <= 120:
                for a, b in web[1]:
                    self.assertEqual(many, len(all_poled(web, a, b)), (web, a, b))
                    self.assertEqual(many, len(all_poled(web, b, a)), (web, b, a))

    def test_poled_counted_one_by_one(self):
        for web in small_webs(4) + [FIVE_RING]:
            if is_whole_web(web) and web[1]:
                falls = slow_falls(web)
                for s, t in web[1] + tuple((b, a) for a, b in web[1]):
                    wanted = [fall for fall in falls if (slow_springs(web, fall), slow_mouths(web, fall)) == ((s,), (t,))]
                    self.assertEqual(poled_many(web), len(wanted), (web, s, t))

    def test_apart_then_no_tie(self):
        with self.assertRaises(NoTie) as caught:
            poled_many(BARE)
        self.assertIs(caught.exception.__class__, NoTie)
        # Apart with ties, and apart without any, which is told first.
        for web in [(3, ((0, 1),)), THREE_PIECES, TWO_RINGS, (2, ()), NINE_ALONE]:
            with self.assertRaises(Apart) as caught:
                poled_many(web)
            self.assertIs(caught.exception.__class__, Apart)

    def test_pairs_counted_one_by_one(self):
        for web in small_webs(3) + [SQUARE, PATH, (4, ()), (4, ((0, 1), (2, 3))), (4, ((0, 1), (0, 2), (1, 2), (2, 3)))]:
            for k in range(5):
                self.assertEqual(pairs_many(web, k), counted_pairs(web, k), (web, k))
        self.assertEqual(pairs_many(FIVE_RING, 3), counted_pairs(FIVE_RING, 3))

    def test_pairs_of_greater_webs(self):
        for web in some_webs():
            self.assertEqual(pairs_many(web, 1), falls_many(web))
            for k in list(range(8)) + GREAT:
                self.assertEqual(pairs_many(web, k), slow_pairs(web, k), (web, k))

    def test_numbers_and_the_same_ones_again(self):
        for web in some_webs()[::4]:
            kept = copy.deepcopy(web)
            for asked in (falls_many, lambda web: hueings(web, 3), lambda web: pairs_many(web, 3)):
                self.assertIs(asked(web).__class__, int)
                self.assertEqual(asked(web), asked(web))
                self.assertGreaterEqual(asked(web), 0)
            self.assertEqual(web, kept)


if __name__ == "__main__":
    unittest.main()
