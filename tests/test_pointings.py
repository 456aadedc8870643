"""[0.2] to [0.4] and stage 2: pointings, orders and rounds."""

import copy
import itertools
import unittest

from rillturn.pointings import is_pointing, is_round, looked, ordered
from tests.samples import (
    BARE, NINE_ALONE, NINE_RING, OTHER_KINDS, PATH, SQUARE, THREE_PIECES, TRIANGLE, TWENTY, all_pointings, leads,
    mixed_falls, mixed_pointings, mixed_webs, slow_first_order, slow_orders, small_webs,
)

# By these the triangle goes round as 0, 1, 2 and as 0, 2, 1.
ROUND_UP = (1, 0, 1)
ROUND_DOWN = (0, 1, 0)


class IsPointing(unittest.TestCase):
    def test_a_number_for_each_tie(self):
        for web in [BARE, TRIANGLE, SQUARE, NINE_ALONE]:
            for pointing in all_pointings(web):
                self.assertIs(is_pointing(web, pointing), True, pointing)
        self.assertIs(is_pointing(TWENTY, (0, 1) * 10), True)

    def test_too_few_and_too_many(self):
        for count in range(6):
            self.assertIs(is_pointing(TRIANGLE, (1,) * count), count == 3, count)
            self.assertIs(is_pointing(BARE, (0,) * count), count == 0, count)

    def test_numbers_are_0_or_1(self):
        for number in [-1, 2, 3, 10 ** 18, -(10 ** 18)]:
            self.assertIs(is_pointing(TRIANGLE, (0, number, 1)), False, number)
            self.assertIs(is_pointing(TRIANGLE, (0, 1, number)), False, number)

    def test_truths_and_lists(self):
        self.assertIs(is_pointing(TRIANGLE, (0, True, 1)), False)
        self.assertIs(is_pointing(TRIANGLE, (False, 0, 1)), False)
        self.assertIs(is_pointing(TRIANGLE, [0, 1, 1]), False)
        self.assertIs(is_pointing(BARE, []), False)
        self.assertIs(is_pointing(BARE, ""), False)
        self.assertIs(is_pointing(BARE, {}), False)
        self.assertIs(is_pointing(BARE, None), False)
        self.assertIs(is_pointing(TRIANGLE, ("0", "1", "1")), False)
        self.assertIs(is_pointing(TRIANGLE, "011"), False)
        self.assertIs(is_pointing(TRIANGLE, {0: 0, 1: 1, 2: 1}), False)
        self.assertIs(is_pointing(TRIANGLE, (0, [1], 1)), False)
        self.assertIs(is_pointing(TRIANGLE, (0, (1,), 1)), False)

    def test_things_of_other_kinds(self):
        for thing in OTHER_KINDS:
            self.assertIs(is_pointing(TRIANGLE, thing), False, thing)
            self.assertIs(is_pointing(BARE, thing), thing == (), thing)


class IsRound(unittest.TestCase):
    def test_a_round_may_begin_anywhere(self):
        for turn in [(0, 1, 2), (1, 2, 0), (2, 0, 1)]:
            self.assertIs(is_round(TRIANGLE, ROUND_UP, turn), True, turn)
            self.assertIs(is_round(TRIANGLE, ROUND_DOWN, turn), False, turn)
            self.assertIs(is_round(TRIANGLE, ROUND_DOWN, turn[::-1]), True, turn)
            self.assertIs(is_round(TRIANGLE, ROUND_UP, turn[::-1]), False, turn)
        self.assertIs(is_round(SQUARE, (1, 0, 1, 1), (0, 1, 2, 3)), True)
        self.assertIs(is_round(SQUARE, (1, 0, 1, 1), (3, 2, 1, 0)), False)

    def test_the_last_leads_to_the_first(self):
        self.assertIs(is_round(TRIANGLE, (1, 1, 1), (0, 1, 2)), False)
        self.assertIs(is_round(SQUARE, (1, 1, 1, 1), (0, 1, 2, 3)), False)
        self.assertIs(is_round(PATH, (1, 1, 1), (0, 1, 2, 3)), False)
        self.assertIs(is_round(NINE_RING, (1, 0) + (1,) * 7, tuple(range(9))), True)
        self.assertIs(is_round(NINE_RING, (1, 1) + (1,) * 7, tuple(range(9))), False)

    def test_fewer_than_three(self):
        for thing in [(), (0,), (0, 1), (1, 0), (2, 0), (0, 0)]:
            self.assertIs(is_round(TRIANGLE, ROUND_UP, thing), False, thing)
        self.assertIs(is_round(BARE, (), ()), False)
        self.assertIs(is_round(BARE, (), (0,)), False)

    def test_places_twice_and_no_places(self):
        for thing in [(0, 1, 2, 0, 1, 2), (0, 1, 2, 0), (0, 1, 0), (0, 1, 3), (-3, 1, 2), (0, 1, -1), (0, 1, 10 ** 18)]:
            self.assertIs(is_round(TRIANGLE, ROUND_UP, thing), False, thing)

    def test_truths_and_lists(self):
        for thing in [[0, 1, 2], (0, True, 2), (False, 1, 2), ([0], 1, 2), (0, 1, {}), "012", {0: 1, 1: 2, 2: 0}]:
            self.assertIs(is_round(TRIANGLE, ROUND_UP, thing), False, thing)

    def test_things_of_other_kinds(self):
        for thing in OTHER_KINDS:
            self.assertIs(is_round(TRIANGLE, ROUND_UP, thing), False, thing)
            self.assertIs(is_round(BARE, (), thing), False, thing)

    def test_all_tuples_of_small_webs(self):
        for web in small_webs(4):
            rows = [row for count in range(5) for row in itertools.permutations(range(web[0]), count)]
            for pointing in all_pointings(web):
                pairs = leads(web, pointing)
                for row in rows:
                    wanted = len(row) >= 3 and all((row[at - 1], row[at]) in pairs for at in range(len(row)))
                    self.assertIs(is_round(web, pointing, row), wanted, (web, pointing, row))


class Looked(unittest.TestCase):
    def test_examples(self):
        self.assertEqual(looked(BARE, ()), ("order", (0,)))
        self.assertEqual(looked(NINE_ALONE, ()), ("order", tuple(range(9))))
        self.assertEqual(looked(PATH, (1, 1, 1)), ("order", (0, 1, 2, 3)))
        self.assertEqual(looked(PATH, (0, 0, 0)), ("order", (3, 2, 1, 0)))
        self.assertEqual(looked(PATH, (0, 1, 0)), ("order", (1, 0, 3, 2)))
        self.assertEqual(looked(PATH, (1, 0, 1)), ("order", (0, 2, 1, 3)))
        self.assertEqual(looked(THREE_PIECES, (0, 0, 0, 0)), ("order", (2, 4, 1, 5, 3, 0)))
        self.assertIn(looked(TRIANGLE, ROUND_UP), [("round", turn) for turn in [(0, 1, 2), (1, 2, 0), (2, 0, 1)]])
        self.assertIn(looked(TRIANGLE, ROUND_DOWN), [("round", turn) for turn in [(0, 2, 1), (2, 1, 0), (1, 0, 2)]])

    def test_a_round_behind_and_ahead_of_other_places(self):
        # 0 leads into the triangle 1, 2, 3, and this to 4; 5 has no tie.
        web = (6, ((0, 1), (1, 2), (1, 3), (2, 3), (3, 4)))
        told = looked(web, (1, 1, 0, 1, 1))
        self.assertEqual(told[0], "round")
        self.assertIn(told[1], [(1, 2, 3), (2, 3, 1), (3, 1, 2)])
        told = looked(web, (0, 0, 1, 0, 0))
        self.assertEqual(told[0], "round")
        self.assertIn(told[1], [(3, 2, 1), (2, 1, 3), (1, 3, 2)])

    def check(self, web, pointing, first):
        """Just one is told: the first order, where there is one, else a true round."""
        told = looked(web, pointing)
        self.assertIs(told.__class__, tuple)
        self.assertIs(told[1].__class__, tuple)
        if first is not None:
            self.assertEqual(told, ("order", first), (web, pointing))
            return
        self.assertEqual((len(told), told[0]), (2, "round"), (web, pointing))
        turn = told[1]
        pairs = leads(web, pointing)
        self.assertTrue(len(turn) >= 3 and len(set(turn)) == len(turn), (web, pointing, turn))
        self.assertTrue(all((turn[at - 1], turn[at]) in pairs for at in range(len(turn))), (web, pointing, turn))
        self.assertIs(is_round(web, pointing, turn), True)

    def test_every_pointing_of_every_small_web(self):
        for web in small_webs(4):
            for pointing in all_pointings(web):
                orders = slow_orders(web, pointing)
                self.check(web, pointing, orders[0] if orders else None)

    def test_every_pointing_of_all_five_tied(self):
        web = (5, tuple(itertools.combinations(range(5), 2)))
        for pointing in all_pointings(web):
            self.check(web, pointing, slow_first_order(web, pointing))

    def test_mixed_pointings_and_falls(self):
        for web in mixed_webs(60, 7):
            for pointing in mixed_pointings(web, 6, 8) + mixed_falls(web, 6, 9):
                self.check(web, pointing, slow_first_order(web, pointing))
            for fall in mixed_falls(web, 6, 9):
                self.assertEqual(looked(web, fall)[0], "order")

    def test_the_largest_webs(self):
        self.check(TWENTY, (1,) * 20, tuple(range(9)))
        self.check(NINE_RING, (1, 0) + (1,) * 7, None)
        self.check(NINE_RING, (0, 1) + (0,) * 7, None)
        self.check(NINE_RING, (0, 0) + (0,) * 7, tuple(range(8, -1, -1)))

    def test_the_same_answer_again_and_nothing_changed(self):
        for web in mixed_webs(20, 10):
            for pointing in mixed_pointings(web, 3, 11):
                kept = copy.deepcopy((web, pointing))
                self.assertEqual(looked(web, pointing), looked(web, pointing))
                self.assertEqual((web, pointing), kept)


class Ordered(unittest.TestCase):
    def test_examples(self):
        self.assertEqual(ordered(BARE, (0,)), ())
        self.assertEqual(ordered(TRIANGLE, (0, 1, 2)), (1, 1, 1))
        self.assertEqual(ordered(TRIANGLE, (2, 1, 0)), (0, 0, 0))
        self.assertEqual(ordered(TRIANGLE, (1, 0, 2)), (0, 1, 1))
        self.assertEqual(ordered(SQUARE, (2, 0, 3, 1)), (1, 1, 0, 1))
        self.assertEqual(ordered(NINE_ALONE, tuple(range(9))), ())
        self.assertEqual(ordered(TWENTY, tuple(range(8, -1, -1))), (0,) * 20)

    def test_each_tie_leads_from_an_earlier_place_to_a_later_one(self):
        for web in small_webs(4):
            for order in itertools.permutations(range(web[0])):
                told = ordered(web, order)
                self.assertIs(is_pointing(web, told), True)
                self.assertTrue(all(order.index(a) < order.index(b) for a, b in leads(web, told)), (web, order))

    def test_the_order_that_is_told_orders_the_fall_again(self):
        for web in mixed_webs(40, 12):
            for fall in mixed_falls(web, 5, 13):
                self.assertEqual(ordered(web, looked(web, fall)[1]), fall)


if __name__ == "__main__":
    unittest.main()
