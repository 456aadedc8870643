"""[0.2], [0.3] and stage 3: hues, the falls they make, hues laid."""

import copy
import itertools
import unittest

from rillturn.heights import longest
from rillturn.hues import hued, is_hues, laid
from rillturn.pointings import is_pointing, looked
from tests.samples import (
    BARE, FIVE_RING, NAMED_WEBS, NINE_ALONE, NINE_RING, OTHER_KINDS, PATH, SQUARE, THREE_PIECES, TRIANGLE, TWENTY, TWO,
    is_fall, leads, mixed_webs, numbers_from, slow_ways, small_webs, some_falls,
)


def mixed_hues(web, count, seed):
    """Hues of a web, some with numbers that come again, the same ones at each run."""
    row = numbers_from(seed)
    found = []
    for _ in range(count):
        hues = []
        for place in range(web[0]):
            taken = [hues[a] for a, b in web[1] if b == place]
            number = next(row) % 12 - 5
            while number in taken:
                number += 1 + next(row) % 3
            hues.append(number)
        found.append(tuple(hues))
    return found


def mixed_orders(web, count, seed):
    row = numbers_from(seed)
    return [tuple(sorted(range(web[0]), key=lambda place: (next(row), place))) for _ in range(count)]


class IsHues(unittest.TestCase):
    def test_hues(self):
        for web, thing in [
            (BARE, (0,)), (BARE, (-7,)), (TWO, (0, 1)), (TWO, (1, 0)), (TRIANGLE, (2, 0, 1)), (SQUARE, (0, 1, 0, 1)),
            (SQUARE, (5, -5, 5, 0)), (PATH, (10 ** 18, -(10 ** 18), 10 ** 18, 0)), (NINE_ALONE, (4,) * 9),
            (THREE_PIECES, (0, 0, 0, 1, 1, 2)), (FIVE_RING, (0, 1, 0, 1, 2)), (TWENTY, tuple(range(9))),
        ]:
            self.assertIs(is_hues(web, thing), True, (web, thing))

    def test_equal_numbers_at_a_tie(self):
        for web in NAMED_WEBS + mixed_webs(20, 21):
            hues = tuple(range(3, 3 + web[0]))
            self.assertIs(is_hues(web, hues), True, web)
            for a, b in itertools.combinations(range(web[0]), 2):
                same = tuple(hues[a] if place == b else hues[place] for place in range(web[0]))
                self.assertIs(is_hues(web, same), (a, b) not in web[1], (web, a, b))

    def test_one_number_more_or_less(self):
        for web in NAMED_WEBS:
            for count in range(13):
                self.assertIs(is_hues(web, tuple(range(count))), count == web[0], (web, count))

    def test_all_tuples_of_small_webs(self):
        for web in small_webs(4):
            for count in range(6):
                for row in itertools.product(range(3), repeat=count):
                    wanted = count == web[0] and all(row[a] != row[b] for a, b in web[1])
                    self.assertIs(is_hues(web, row), wanted, (web, row))

    def test_lists_texts_and_truths(self):
        for thing in [
            [0, 1, 2], "012", ("0", "1", "2"), (0, True, 2), (False, 1, 2), (3, 2, True), (0, 1, None), (0, 1, [2]),
            (0, 1, (2,)), (0, [1], [2]), (0, 1, {}), (0, {}, "a"), {0: 1, 1: 2, 2: 0}, ((0, 1, 2),), [(0, 1, 2)],
            ((0,), (1,), (2,)), (None, 0, 1),
        ]:
            self.assertIs(is_hues(TRIANGLE, thing), False, thing)
        for thing in [(True,), (False,), [0], "0", 0, {0: 0}, (None,), ([0],), ("0",)]:
            self.assertIs(is_hues(BARE, thing), False, thing)
        self.assertIs(is_hues(NINE_ALONE, [0] * 9), False)
        self.assertIs(is_hues(NINE_ALONE, (0,) * 8 + (True,)), False)

    def test_things_of_other_kinds(self):
        for thing in OTHER_KINDS:
            kept = copy.deepcopy(thing)
            for web in [BARE, TRIANGLE, NINE_RING, TWENTY]:
                self.assertIs(is_hues(web, thing), False, thing)
            self.assertEqual(thing, kept)


class Hued(unittest.TestCase):
    def test_examples(self):
        self.assertEqual(hued(BARE, (5,)), ())
        self.assertEqual(hued(TWO, (0, 1)), (1,))
        self.assertEqual(hued(TWO, (1, 0)), (0,))
        self.assertEqual(hued(TRIANGLE, (0, 1, 2)), (1, 1, 1))
        self.assertEqual(hued(TRIANGLE, (-1, -3, -2)), (0, 0, 1))
        self.assertEqual(hued(SQUARE, (0, 1, 0, 1)), (1, 1, 0, 1))
        self.assertEqual(hued(PATH, (10 ** 18, -(10 ** 18), 0, -1)), (0, 1, 0))
        self.assertEqual(hued(NINE_ALONE, (0,) * 9), ())

    def check(self, web, hues):
        fall = hued(web, hues)
        self.assertIs(is_pointing(web, fall), True, (web, hues))
        self.assertTrue(all(hues[a] < hues[b] for a, b in leads(web, fall)), (web, hues))
        self.assertTrue(is_fall(web, fall), (web, hues))
        self.assertEqual(looked(web, fall)[0], "order")
        self.assertLess(longest(web, fall)[0], len(set(hues)), (web, hues))

    def test_all_hues_of_small_webs(self):
        for web in small_webs(4):
            for row in itertools.product(range(4), repeat=web[0]):
                if is_hues(web, row):
                    self.check(web, row)

    def test_mixed_hues(self):
        for web in NAMED_WEBS + mixed_webs(40, 22):
            for hues in mixed_hues(web, 6, 23):
                self.assertIs(is_hues(web, hues), True, (web, hues))
                self.check(web, hues)

    def test_no_way_has_as_many_steps_as_there_are_unlike_numbers(self):
        for web in small_webs(4) + [FIVE_RING]:
            for hues in mixed_hues(web, 4, 24):
                most = max(len(way) - 1 for way in slow_ways(web, hued(web, hues)))
                self.assertLess(most, len(set(hues)), (web, hues))

    def test_the_heights_of_a_fall_are_hues_that_make_it_again(self):
        for web in small_webs(4) + NAMED_WEBS + mixed_webs(30, 25):
            for fall in some_falls(web, 4, 26):
                heights = longest(web, fall)[2]
                self.assertIs(is_hues(web, heights), True, (web, fall))
                self.assertEqual(hued(web, heights), fall, web)


class Laid(unittest.TestCase):
    def test_examples(self):
        self.assertEqual(laid(BARE, (0,)), (0,))
        self.assertEqual(laid(NINE_ALONE, tuple(range(9))), (0,) * 9)
        self.assertEqual(laid(PATH, (0, 1, 2, 3)), (0, 1, 0, 1))
        self.assertEqual(laid(PATH, (0, 3, 1, 2)), (0, 1, 2, 0))
        self.assertEqual(laid(PATH, (3, 0, 2, 1)), (0, 2, 1, 0))
        self.assertEqual(laid(TRIANGLE, (2, 0, 1)), (1, 2, 0))
        self.assertEqual(laid(SQUARE, (0, 2, 1, 3)), (0, 1, 0, 1))
        self.assertEqual(laid(FIVE_RING, (0, 1, 2, 3, 4)), (0, 1, 0, 1, 2))
        self.assertEqual(laid(NINE_RING, tuple(range(9))), (0, 1, 0, 1, 0, 1, 0, 1, 2))
        self.assertEqual(laid(TWENTY, tuple(range(8, -1, -1))), (3, 2, 1, 0, 0, 0, 0, 0, 0))

    def test_a_number_that_was_skipped_is_taken(self):
        # 3 is tied to places with 0 and 2, and has 1; 4 to those with 1 and 2, and has 0.
        web = (6, ((0, 1), (0, 2), (0, 3), (1, 2), (1, 4), (2, 3), (2, 4)))
        self.assertEqual(laid(web, (0, 1, 2, 3, 4, 5)), (0, 1, 2, 1, 0, 0))

    def check(self, web, order):
        hues = laid(web, order)
        self.assertIs(is_hues(web, hues), True, (web, order))
        for at, place in enumerate(order):
            taken = [hues[other] for other in order[:at] if (min(place, other), max(place, other)) in web[1]]
            wanted = [number for number in range(10) if number not in taken][0]
            self.assertEqual(hues[place], wanted, (web, order, place))

    def test_all_orders_of_small_webs(self):
        for web in small_webs(4) + [FIVE_RING]:
            for order in itertools.permutations(range(web[0])):
                self.check(web, order)

    def test_mixed_orders(self):
        for web in NAMED_WEBS + mixed_webs(40, 27):
            for order in mixed_orders(web, 8, 28):
                self.check(web, order)

    def test_the_same_answer_again_and_nothing_changed(self):
        for web in mixed_webs(10, 29):
            for order in mixed_orders(web, 2, 30):
                kept = copy.deepcopy((web, order))
                hues = laid(web, order)
                self.assertEqual(laid(web, order), hues)
                self.assertEqual(hued(web, hues), hued(web, hues))
                self.assertEqual((web, order), kept)


if __name__ == "__main__":
    unittest.main()
