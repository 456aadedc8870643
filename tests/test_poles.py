"""[0.2] to [0.4] and stage 10: poles, the orders that make them or the cuts that hinder them, all poled falls."""

import copy
import itertools
import unittest

from rillturn.errors import Apart, SamePlace, TooMany
from rillturn.pointings import ordered
from rillturn.poles import all_poled, poled, poled_right
from tests.samples import (
    BARE, FIVE_RING, JUST_MANY_KINS, NINE_ALONE, NINE_RING, NINE_ROW, PATH, SIX, SIX_CROWD, SPINDLE, SQUARE, STAR,
    THREE_PIECES, TRIANGLE, TWENTY, TWENTY_MIXED, TWO, TWO_RINGS, WHEEL, is_fall, is_whole_web, mixed_webs,
    mixed_whole_webs, numbers_from, slow_falls, slow_kin_count, slow_mouths, slow_springs, small_webs,
)

# Two triangles that share a place, and two squares joined by a tie.
BUTTERFLY = (5, ((0, 1), (0, 2), (1, 2), (2, 3), (2, 4), (3, 4)))
JOINED = (8, ((0, 1), (0, 3), (1, 2), (2, 3), (3, 4), (4, 5), (4, 7), (5, 6), (6, 7)))
WHOLE_WEBS = [
    TWO, TRIANGLE, SQUARE, PATH, FIVE_RING, NINE_RING, NINE_ROW, STAR, WHEEL, SPINDLE, SIX, JUST_MANY_KINS, TWENTY,
    TWENTY_MIXED, BUTTERFLY, JOINED,
]
APART_WEBS = [(2, ()), NINE_ALONE, THREE_PIECES, TWO_RINGS, SIX_CROWD]
ODD_NUMBERS = [-(10 ** 18), -9, -2, -1, 9, 10, 10 ** 18]


def tied_pairs(web):
    return set(web[1]) | {(b, a) for a, b in web[1]}


def slow_order(web, s, t, order):
    """Whether an order is one by which a fall is poled."""
    if sorted(order) != list(range(web[0])) or (order[0], order[-1]) != (s, t):
        return False
    pairs = tied_pairs(web)
    for at, place in enumerate(order[1:-1], 1):
        if not any((other, place) in pairs for other in order[:at]):
            return False
        if not any((other, place) in pairs for other in order[at + 1:]):
            return False
    return True


def slow_cut(web, s, t, place, part):
    """Whether a part is cut off from both poles by a place."""
    if place not in range(web[0]) or not part or list(part) != sorted(set(part)):
        return False
    if any(other not in range(web[0]) or other in (s, t, place) for other in part):
        return False
    return all(b in part or b == place for a, b in tied_pairs(web) if a in part)


def slow_right(web, s, t, told):
    return slow_order(web, s, t, told[1]) if told[0] == "order" else slow_cut(web, s, t, told[1], told[2])


def all_cuts(web, s, t):
    """All cuts, every place and every part being tried."""
    found = []
    for count in range(1, web[0]):
        for part in itertools.combinations(range(web[0]), count):
            found.extend(("cut", place, part) for place in range(web[0]) if slow_cut(web, s, t, place, part))
    return found


def is_poled(web, s, t, fall):
    return is_fall(web, fall) and slow_springs(web, fall) == (s,) and slow_mouths(web, fall) == (t,)


class Poled(unittest.TestCase):
    def test_examples(self):
        self.assertEqual(poled(TWO, 0, 1), ("order", (0, 1)))
        self.assertEqual(poled(TWO, 1, 0), ("order", (1, 0)))
        self.assertEqual(poled(TRIANGLE, 0, 1), ("order", (0, 2, 1)))
        self.assertEqual(poled(PATH, 0, 3), ("order", (0, 1, 2, 3)))
        self.assertEqual(poled(PATH, 3, 0), ("order", (3, 2, 1, 0)))
        self.assertEqual(poled(PATH, 1, 3), ("cut", 1, (0,)))
        self.assertEqual(poled((3, ((0, 1), (1, 2))), 0, 1), ("cut", 1, (2,)))
        self.assertEqual(poled(BUTTERFLY, 0, 1), ("cut", 2, (3, 4)))
        self.assertEqual(poled(BUTTERFLY, 0, 2), ("cut", 2, (3, 4)))
        self.assertEqual(poled(BUTTERFLY, 3, 2), ("cut", 2, (0, 1)))
        self.assertEqual(poled(BUTTERFLY, 0, 4)[0], "order")

    def check(self, web, s, t):
        told = poled(web, s, t)
        self.assertIs(told.__class__, tuple)
        if told[0] == "order":
            self.assertEqual(len(told), 2)
            self.assertIs(told[1].__class__, tuple)
            self.assertTrue(slow_order(web, s, t, told[1]), (web, s, t, told))
            self.assertTrue(is_poled(web, s, t, ordered(web, told[1])), (web, s, t, told))
        else:
            self.assertEqual((told[0], len(told)), ("cut", 3))
            self.assertIs(told[2].__class__, tuple)
            self.assertTrue(slow_cut(web, s, t, told[1], told[2]), (web, s, t, told))
        self.assertIs(poled_right(web, s, t, told), True, (web, s, t, told))
        return told[0]

    def test_never_both_by_trying_all_on_small_webs(self):
        for web in small_webs(4) + [FIVE_RING, BUTTERFLY]:
            if not is_whole_web(web):
                continue
            falls = slow_falls(web)
            for s, t in itertools.permutations(range(web[0]), 2):
                word = self.check(web, s, t)
                orders = [order for order in itertools.permutations(range(web[0])) if slow_order(web, s, t, order)]
                self.assertEqual(bool(orders), word == "order", (web, s, t))
                self.assertEqual(not all_cuts(web, s, t), word == "order", (web, s, t))
                self.assertEqual(any(is_poled(web, s, t, fall) for fall in falls), word == "order", (web, s, t))

    def test_greater_webs(self):
        words = []
        for web in WHOLE_WEBS + mixed_whole_webs(60, 181):
            for s, t in itertools.permutations(range(web[0]), 2):
                words.append(self.check(web, s, t))
        self.assertGreater(min(words.count("order"), words.count("cut")), 200)

    def test_no_cut_where_there_is_an_order(self):
        for web in [NINE_RING, NINE_ROW, JOINED, SPINDLE] + mixed_whole_webs(8, 182):
            for s, t in [(0, 1), (2, 0), (web[0] - 1, 3)]:
                self.assertEqual(not all_cuts(web, s, t), poled(web, s, t)[0] == "order", (web, s, t))

    def test_the_poles_themselves_may_cut(self):
        self.assertEqual(poled(STAR, 3, 0)[:2], ("cut", 3))
        self.assertEqual(poled(STAR, 0, 3)[:2], ("cut", 3))
        self.assertEqual(poled(STAR, 0, 1)[:2], ("cut", 3))

    def refused(self, error, web, s, t):
        for asked in (poled, all_poled, lambda web, s, t: poled_right(web, s, t, ("order", (0, 1)))):
            with self.assertRaises(error) as caught:
                asked(web, s, t)
            self.assertIs(caught.exception.__class__, error)

    def test_apart(self):
        for web in APART_WEBS + [web for web in small_webs(4) + mixed_webs(20, 183) if not is_whole_web(web)]:
            for s, t in [(0, 1), (1, 0), (web[0] - 1, 0)]:
                self.refused(Apart, web, s, t)

    def test_same_place(self):
        for web in [BARE] + WHOLE_WEBS:
            for place in range(web[0]):
                self.refused(SamePlace, web, place, place)

    def test_apart_comes_ahead_of_same_place(self):
        for web in APART_WEBS:
            for place in range(web[0]):
                self.refused(Apart, web, place, place)

    def test_the_same_answer_again_and_nothing_changed(self):
        for web in WHOLE_WEBS:
            kept = copy.deepcopy(web)
            self.assertEqual(poled(web, 0, 1), poled(web, 0, 1))
            self.assertEqual(web, kept)


class PoledRight(unittest.TestCase):
    def compare(self, web, s, t, told):
        wanted = slow_right(web, s, t, told)
        self.assertIs(poled_right(web, s, t, told), wanted, (web, s, t, told))
        return wanted

    def test_all_orders_of_small_webs(self):
        answers = []
        for web in [TWO, (3, ((0, 1), (1, 2))), TRIANGLE, PATH, SQUARE, (4, ((0, 1), (0, 2), (1, 2), (2, 3)))]:
            rows = [row for count in range(web[0] + 2) for row in itertools.product(range(web[0]), repeat=count)]
            for s, t in itertools.permutations(range(web[0]), 2):
                answers.extend(self.compare(web, s, t, ("order", row)) for row in rows)
        self.assertGreater(min(answers.count(True), answers.count(False)), 20)

    def test_all_cuts_of_small_webs(self):
        answers = []
        for web in [TWO, (3, ((0, 1), (1, 2))), TRIANGLE, PATH, (4, ((0, 1), (0, 2), (1, 2), (2, 3))), (4, ((0, 3), (1, 3), (2, 3)))]:
            numbers = range(-1, web[0] + 1)
            rows = [row for count in range(4) for row in itertools.product(numbers, repeat=count)]
            for s, t in itertools.permutations(range(web[0]), 2):
                answers.extend(self.compare(web, s, t, ("cut", place, row)) for row in rows for place in numbers)
        self.assertGreater(min(answers.count(True), answers.count(False)), 20)

    def test_all_parts_of_greater_webs(self):
        answers = []
        for web in [JOINED, BUTTERFLY, NINE_ROW, STAR, SPINDLE]:
            parts = [part for count in range(web[0]) for part in itertools.combinations(range(web[0]), count)]
            for s, t in [(0, 4), (4, 3)]:
                answers.extend(
                    self.compare(web, s, t, ("cut", place, part)) for part in parts for place in range(web[0])
                )
        self.assertGreater(min(answers.count(True), answers.count(False)), 20)

    def changed_rows(self, web, row):
        found = [row[::-1], row[1:] + row[:1], row + row, ()]
        for at in range(len(row)):
            found.append(row[:at] + row[at + 1:])
            for number in list(range(web[0])) + ODD_NUMBERS:
                found.append(row[:at] + (number,) + row[at + 1:])
                found.append(row[:at] + (number,) + row[at:])
            for to in range(at + 1, len(row)):
                found.append(row[:at] + (row[to],) + row[at + 1:to] + (row[at],) + row[to + 1:])
        return found

    def test_told_ones_changed(self):
        answers = []
        for web in WHOLE_WEBS + mixed_whole_webs(20, 184):
            for s, t in [(0, 1), (web[0] - 1, 0), (1, web[0] - 1)]:
                if s == t:
                    continue
                told = poled(web, s, t)
                for row in self.changed_rows(web, told[-1]):
                    answers.append(self.compare(web, s, t, told[:-1] + (row,)))
                if told[0] == "cut":
                    for place in list(range(web[0])) + ODD_NUMBERS:
                        answers.append(self.compare(web, s, t, ("cut", place, told[2])))
        self.assertGreater(min(answers.count(True), answers.count(False)), 100)

    def test_mixed_orders(self):
        row = numbers_from(185)
        for web in WHOLE_WEBS:
            for _ in range(40):
                order = tuple(place for rank, place in sorted((next(row), place) for place in range(web[0])))
                self.compare(web, order[0], order[-1], ("order", order))
                self.compare(web, order[-1], order[0], ("order", order))

    def test_numbers_below_0_are_no_places(self):
        # From the end, as Python counts, these would be the places.
        self.assertIs(poled_right(TRIANGLE, 0, 1, ("order", (0, 2, 1))), True)
        self.assertIs(poled_right(TRIANGLE, 0, 1, ("order", (0, -1, 1))), False)
        self.assertIs(poled_right(PATH, 1, 3, ("cut", 1, (0,))), True)
        self.assertIs(poled_right(PATH, 1, 3, ("cut", -3, (0,))), False)
        self.assertIs(poled_right(PATH, 1, 3, ("cut", 1, (-4,))), False)

    def test_parts_with_a_pole_or_the_place_or_empty(self):
        web = (5, ((0, 1), (1, 2), (2, 3), (3, 4)))
        self.assertIs(poled_right(web, 1, 2, ("cut", 1, (0,))), True)
        self.assertIs(poled_right(web, 1, 2, ("cut", 2, (3, 4))), True)
        for told in [
            ("cut", 1, ()), ("cut", 2, (0, 1)), ("cut", 1, (2, 3, 4)), ("cut", 1, (0, 1)), ("cut", 0, (1, 2, 3, 4)),
            ("cut", 2, (4, 3)), ("cut", 2, (3, 3, 4)), ("cut", 2, (3,)), ("cut", 3, (4, 4)), ("cut", 0, (0,)),
        ]:
            self.assertIs(poled_right(web, 1, 2, told), False, told)
        # All that is left of a place, a part may be in several pieces.
        self.assertIs(poled_right(STAR, 0, 1, ("cut", 3, (2, 5, 8))), True)

    def test_other_kinds(self):
        for told in [
            ["order", (0, 2, 1)], ("order", [0, 2, 1]), ("order", (0, 2, True)), ("order", (False, 2, 1)), ("order",),
            ("order", (0, 2, 1), ()), ("orders", (0, 2, 1)), ("cut", (0, 2, 1)), None, "order", (), ("order", None),
            ("order", "021"), ("order", ()), ("order", ("0", "2", "1")),
        ]:
            self.assertIs(poled_right(TRIANGLE, 0, 1, told), False, told)
        for told in [
            ["cut", 1, (0,)], ("cut", 1, [0]), ("cut", True, (0,)), ("cut", 1, (False,)), ("cut", 1), ("cut", 1, (0,), 0),
            ("order", 1, (0,)), ("cut", None, (0,)), ("cut", 1, None), ("cut", "1", (0,)), ("cut", 1, "0"),
        ]:
            self.assertIs(poled_right(PATH, 1, 3, told), False, told)


class AllPoled(unittest.TestCase):
    def test_examples(self):
        self.assertEqual(all_poled(TWO, 0, 1), [(1,)])
        self.assertEqual(all_poled(TWO, 1, 0), [(0,)])
        self.assertEqual(all_poled(TRIANGLE, 0, 2), [(1, 1, 1)])
        self.assertEqual(all_poled(SQUARE, 0, 2), [(1, 1, 1, 0)])
        self.assertEqual(all_poled(SQUARE, 0, 1), [(1, 1, 0, 0)])
        self.assertEqual(all_poled(PATH, 1, 3), [])
        self.assertIs(all_poled(PATH, 1, 3).__class__, list)

    def test_all_small_webs(self):
        for web in small_webs(4) + [FIVE_RING, BUTTERFLY]:
            if not is_whole_web(web):
                continue
            falls = slow_falls(web)
            for s, t in itertools.permutations(range(web[0]), 2):
                wanted = [fall for fall in falls if is_poled(web, s, t, fall)]
                told = all_poled(web, s, t)
                self.assertIs(told.__class__, list)
                self.assertEqual(told, sorted(wanted), (web, s, t))

    def test_greater_webs(self):
        """Of all falls that are seated at s, as many as there should be, each has one mouth alone."""
        told_many, refused = 0, 0
        for web in WHOLE_WEBS + mixed_whole_webs(30, 186):
            many = slow_kin_count(web)
            for s, t in [(0, 1), (web[0] - 1, 0)]:
                if many > 120:
                    with self.assertRaises(TooMany) as caught:
                        all_poled(web, s, t)
                    self.assertIs(caught.exception.__class__, TooMany)
                    refused += 1
                    continue
                told = all_poled(web, s, t)
                self.assertEqual(told, sorted(set(told)))
                self.assertTrue(all(is_poled(web, s, t, fall) for fall in told))
                self.assertEqual(bool(told), poled(web, s, t)[0] == "order")
                about = [tuple(1 - number for number in fall) for fall in all_poled(web, t, s)]
                self.assertEqual(sorted(about), told)
                if len(web[1]) <= 10:
                    self.assertEqual(told, [fall for fall in slow_falls(web) if is_poled(web, s, t, fall)])
                told_many += 1
        self.assertGreater(min(told_many, refused), 15)

    def test_same_place_comes_ahead_of_too_many(self):
        for web in [JUST_MANY_KINS, TWENTY_MIXED]:
            with self.assertRaises(TooMany):
                all_poled(web, 0, 8)
            with self.assertRaises(SamePlace):
                all_poled(web, 8, 8)

    def test_just_120(self):
        self.assertEqual(len(all_poled(SIX, 0, 5)), 24)

    def test_a_list_of_the_askers_own(self):
        told = all_poled(TRIANGLE, 0, 2)
        told.append(None)
        told[0] = "other"
        self.assertEqual(all_poled(TRIANGLE, 0, 2), [(1, 1, 1)])
        all_poled(PATH, 1, 3).append(5)
        self.assertEqual(all_poled(PATH, 1, 3), [])


if __name__ == "__main__":
    unittest.main()
