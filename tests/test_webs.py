"""[0.2], [0.3] and stage 1: webs."""

import copy
import itertools
import unittest

from rillturn.errors import NoTie, There, TooMany
from rillturn.webs import drawn, is_ring, is_web, is_whole, near, pieces, tied, untied
from tests.samples import (
    ALL_NINE_PAIRS, BARE, NINE_ALONE, NINE_RING, NINETEEN, OTHER_KINDS, PATH, SQUARE, THREE_PIECES, TRIANGLE, TWENTY,
    mixed_webs, small_webs,
)


class Whole(unittest.TestCase):
    def test_ints_are_whole_numbers(self):
        for number in [0, 1, -1, 9, 10 ** 18, -(10 ** 18), 10 ** 18 + 1, 10 ** 40]:
            self.assertIs(is_whole(number), True, number)

    def test_truths_are_none(self):
        self.assertIs(is_whole(True), False)
        self.assertIs(is_whole(False), False)

    def test_things_of_other_kinds_are_none(self):
        for thing in [None, "", "1", [], [1], (), (1,), {}, {1: 1}, [[]], ((1,),)]:
            self.assertIs(is_whole(thing), False, thing)


class IsWeb(unittest.TestCase):
    def test_webs_of_the_told_form(self):
        for web in [BARE, TRIANGLE, SQUARE, PATH, THREE_PIECES, NINE_ALONE, NINE_RING, NINETEEN, TWENTY, (2, ((0, 1),))]:
            self.assertIs(is_web(web), True, web)
        for web in small_webs(4) + mixed_webs(60, 1):
            self.assertIs(is_web(web), True, web)

    def test_from_one_place_to_nine(self):
        for many in range(-3, 14):
            self.assertIs(is_web((many, ())), 1 <= many <= 9, many)
        self.assertIs(is_web((10 ** 18, ())), False)
        self.assertIs(is_web((10, ((0, 9),))), False)

    def test_at_most_20_ties(self):
        for count in range(25):
            self.assertIs(is_web((9, ALL_NINE_PAIRS[:count])), count <= 20, count)

    def test_ties_are_of_places(self):
        for tie in [(0, 3), (-1, 0), (3, 4), (2, 10 ** 18), (-(10 ** 18), 1)]:
            self.assertIs(is_web((3, (tie,))), False, tie)
        self.assertIs(is_web((1, ((0, 1),))), False)
        self.assertIs(is_web((3, ((1, 2),))), True)

    def test_a_is_below_b(self):
        for tie in [(1, 0), (0, 0), (2, 2), (2, 1)]:
            self.assertIs(is_web((3, (tie,))), False, tie)

    def test_ties_are_sorted_and_unlike(self):
        self.assertIs(is_web((3, ((0, 2), (0, 1)))), False)
        self.assertIs(is_web((3, ((1, 2), (0, 1)))), False)
        self.assertIs(is_web((3, ((0, 1), (0, 1)))), False)
        self.assertIs(is_web((3, ((0, 1), (1, 2), (0, 2)))), False)
        self.assertIs(is_web((4, ((0, 3), (1, 2)))), True)

    def test_lists_are_no_tuples(self):
        self.assertIs(is_web([3, ((0, 1),)]), False)
        self.assertIs(is_web((3, [(0, 1)])), False)
        self.assertIs(is_web((3, ([0, 1],))), False)
        self.assertIs(is_web((3, [])), False)
        self.assertIs(is_web([1, []]), False)

    def test_truths_are_no_numbers(self):
        self.assertIs(is_web((True, ())), False)
        self.assertIs(is_web((2, ((False, 1),))), False)
        self.assertIs(is_web((2, ((0, True),))), False)
        self.assertIs(is_web((2, ((False, True),))), False)
        self.assertIs(is_web((3, ((0, 1), (True, 2)))), False)

    def test_other_sizes(self):
        for thing in [(3,), (3, (), ()), (3, ((0,),)), (3, ((0, 1, 2),)), (3, ((),)), (3, 0, 1), (3, (0, 1))]:
            self.assertIs(is_web(thing), False, thing)

    def test_things_of_other_kinds(self):
        for thing in OTHER_KINDS:
            self.assertIs(is_web(thing), False, thing)
            self.assertIs(is_web((thing, ())), thing is not True and thing in (1, 3), thing)
            self.assertIs(is_web((3, thing)), thing == (), thing)
            self.assertIs(is_web((3, (thing,))), False, thing)
            self.assertIs(is_web((3, ((thing, 2),))), thing is not True and thing is not False and thing in (0, 1), thing)
            self.assertIs(is_web((3, ((0, thing),))), thing is not True and thing == 1, thing)
        self.assertIs(is_web("3 "), False)
        self.assertIs(is_web((3, "01")), False)
        self.assertIs(is_web((3, {(0, 1): 1})), False)
        self.assertIs(is_web((3, ("01",))), False)
        self.assertIs(is_web((3, (("0", "1"),))), False)
        self.assertIs(is_web({3: (), 4: ()}), False)


class Near(unittest.TestCase):
    def test_examples(self):
        self.assertEqual(near(BARE, 0), ())
        self.assertEqual(near(NINE_ALONE, 8), ())
        self.assertEqual(near(SQUARE, 0), (1, 3))
        self.assertEqual(near(SQUARE, 2), (1, 3))
        self.assertEqual(near(NINE_RING, 8), (0, 7))
        self.assertEqual(near(THREE_PIECES, 2), ())
        self.assertEqual(near(THREE_PIECES, 5), (0, 3))
        self.assertEqual(near(TWENTY, 0), (1, 2, 3, 4, 5, 6, 7, 8))

    def test_the_rising_tuple_of_tied_places(self):
        for web in small_webs(4) + mixed_webs(40, 2):
            for place in range(web[0]):
                wanted = sorted([b for a, b in web[1] if a == place] + [a for a, b in web[1] if b == place])
                self.assertEqual(near(web, place), tuple(wanted), (web, place))


class Pieces(unittest.TestCase):
    def test_examples(self):
        self.assertEqual(pieces(BARE), [(0,)])
        self.assertEqual(pieces(NINE_ALONE), [(place,) for place in range(9)])
        self.assertEqual(pieces(NINE_RING), [tuple(range(9))])
        self.assertEqual(pieces(PATH), [(0, 1, 2, 3)])
        self.assertEqual(pieces(THREE_PIECES), [(0, 3, 5), (1, 4), (2,)])
        self.assertEqual(pieces((5, ((0, 4), (1, 3)))), [(0, 4), (1, 3), (2,)])
        # The way from 0 to 1 goes by the highest places first.
        self.assertEqual(pieces((5, ((0, 4), (1, 2), (2, 3), (3, 4)))), [(0, 1, 2, 3, 4)])

    def test_each_piece_is_just_what_is_led_to(self):
        for web in small_webs(4) + mixed_webs(60, 3):
            names = list(range(web[0]))
            for _ in range(web[0]):
                for a, b in web[1]:
                    names[a] = names[b] = min(names[a], names[b])
            wanted = [tuple(place for place in range(web[0]) if names[place] == name) for name in sorted(set(names))]
            self.assertEqual(pieces(web), wanted, web)

    def test_a_list_of_the_askers_own(self):
        told = pieces(THREE_PIECES)
        told.append("more")
        told[0] = None
        self.assertEqual(pieces(THREE_PIECES), [(0, 3, 5), (1, 4), (2,)])
        self.assertIs(pieces(BARE).__class__, list)


class IsRing(unittest.TestCase):
    def test_rings(self):
        for ring in itertools.permutations((0, 1, 2)):
            self.assertIs(is_ring(TRIANGLE, ring), True, ring)
        self.assertIs(is_ring(SQUARE, (0, 1, 2, 3)), True)
        self.assertIs(is_ring(SQUARE, (2, 1, 0, 3)), True)
        self.assertIs(is_ring(NINE_RING, tuple(range(9))), True)
        self.assertIs(is_ring(NINE_RING, (4, 3, 2, 1, 0, 8, 7, 6, 5)), True)
        self.assertIs(is_ring(THREE_PIECES, (3, 0, 5)), True)

    def test_a_tie_is_wanting(self):
        self.assertIs(is_ring(SQUARE, (0, 2, 1, 3)), False)
        self.assertIs(is_ring(SQUARE, (0, 1, 2)), False)
        # Here only the last one is not tied to the first one.
        self.assertIs(is_ring(PATH, (0, 1, 2, 3)), False)
        self.assertIs(is_ring(PATH, (0, 1, 2)), False)
        self.assertIs(is_ring(NINE_RING, tuple(range(8))), False)
        self.assertIs(is_ring(NINE_ALONE, (0, 1, 2)), False)

    def test_fewer_than_three(self):
        for ring in [(), (0,), (0, 1), (1, 0), (0, 0)]:
            self.assertIs(is_ring(TRIANGLE, ring), False, ring)
        self.assertIs(is_ring(BARE, (0,)), False)
        self.assertIs(is_ring(BARE, ()), False)

    def test_places_twice(self):
        for ring in [(0, 1, 0), (0, 1, 2, 0), (0, 1, 2, 0, 1, 2), (0, 1, 0, 1), (0, 0, 0)]:
            self.assertIs(is_ring(TRIANGLE, ring), False, ring)

    def test_numbers_that_are_no_places(self):
        for ring in [(0, 1, 3), (-1, 0, 1), (0, 1, -1), (0, 1, 10 ** 18), (1, 2, 3), (-3, -2, -1)]:
            self.assertIs(is_ring(TRIANGLE, ring), False, ring)

    def test_lists_and_truths(self):
        self.assertIs(is_ring(TRIANGLE, [0, 1, 2]), False)
        self.assertIs(is_ring(TRIANGLE, (0, True, 2)), False)
        self.assertIs(is_ring(TRIANGLE, (False, 1, 2)), False)
        self.assertIs(is_ring(TRIANGLE, ([0], [1], [2])), False)
        self.assertIs(is_ring(TRIANGLE, (0, 1, [2])), False)
        self.assertIs(is_ring(TRIANGLE, (0, 1, {})), False)
        self.assertIs(is_ring(TRIANGLE, (0, 1, "2")), False)
        self.assertIs(is_ring(TRIANGLE, (0, 1, None)), False)
        self.assertIs(is_ring(TRIANGLE, {0: 1, 1: 2, 2: 0}), False)
        self.assertIs(is_ring(TRIANGLE, "012"), False)

    def test_things_of_other_kinds(self):
        for web in [BARE, TRIANGLE, NINE_RING, TWENTY]:
            for thing in OTHER_KINDS:
                self.assertIs(is_ring(web, thing), False, thing)

    def test_all_tuples_of_small_webs(self):
        for web in small_webs(4):
            ties = set(web[1]) | {(b, a) for a, b in web[1]}
            for count in range(6):
                for row in itertools.product(range(web[0]), repeat=count):
                    wanted = count >= 3 and len(set(row)) == count
                    wanted = wanted and all((row[at - 1], row[at]) in ties for at in range(count))
                    self.assertIs(is_ring(web, row), wanted, (web, row))


class Drawn(unittest.TestCase):
    def test_examples(self):
        self.assertEqual(drawn((2, ()), 0, 1), (1, ()))
        self.assertEqual(drawn((2, ((0, 1),)), 0, 1), (1, ()))
        self.assertEqual(drawn(TRIANGLE, 0, 1), (2, ((0, 1),)))
        self.assertEqual(drawn(TRIANGLE, 0, 2), (2, ((0, 1),)))
        # Not tied; the ties of 2 come to 0 and are there twice.
        self.assertEqual(drawn(SQUARE, 0, 2), (3, ((0, 1), (0, 2))))
        self.assertEqual(drawn(SQUARE, 0, 1), TRIANGLE)
        self.assertEqual(drawn(PATH, 0, 3), TRIANGLE)
        self.assertEqual(drawn(PATH, 1, 3), (3, ((0, 1), (1, 2))))
        self.assertEqual(drawn(PATH, 1, 2), (3, ((0, 1), (1, 2))))
        self.assertEqual(drawn(THREE_PIECES, 1, 2), (5, ((0, 2), (0, 4), (1, 3), (2, 4))))
        self.assertEqual(drawn(THREE_PIECES, 2, 5), (5, ((0, 2), (0, 3), (1, 4), (2, 3))))
        self.assertEqual(drawn(NINE_ALONE, 7, 8), (8, ()))

    def test_more_ties_than_a_web_has_are_no_hindrance(self):
        everything = (9, ALL_NINE_PAIRS)
        self.assertEqual(drawn(everything, 3, 6), (8, tuple(itertools.combinations(range(8), 2))))

    def test_any_two_places_of_many_webs(self):
        for web in small_webs(4) + mixed_webs(30, 4):
            for a, b in itertools.combinations(range(web[0]), 2):
                old = [place for place in range(web[0]) if place != b]
                groups = [{place} if place != a else {a, b} for place in old]
                wanted = []
                for x, y in itertools.combinations(range(len(old)), 2):
                    if any((min(p, q), max(p, q)) in web[1] for p in groups[x] for q in groups[y]):
                        wanted.append((x, y))
                self.assertEqual(drawn(web, a, b), (web[0] - 1, tuple(wanted)), (web, a, b))
                self.assertTrue(is_web(drawn(web, a, b)))


class TiedAndUntied(unittest.TestCase):
    def test_a_tie_more_in_either_order(self):
        for a, b in [(0, 2), (2, 0)]:
            self.assertEqual(tied(SQUARE, a, b), (4, ((0, 1), (0, 2), (0, 3), (1, 2), (2, 3))))
        self.assertEqual(tied(NINE_ALONE, 8, 3), (9, ((3, 8),)))
        self.assertEqual(tied((2, ()), 1, 0), (2, ((0, 1),)))
        self.assertEqual(tied(NINETEEN, 7, 2), TWENTY)

    def test_a_tie_less_in_either_order(self):
        for a, b in [(0, 3), (3, 0)]:
            self.assertEqual(untied(SQUARE, a, b), PATH)
        self.assertEqual(untied((2, ((0, 1),)), 1, 0), (2, ()))
        self.assertEqual(untied(TWENTY, 7, 2), NINETEEN)

    def test_there(self):
        for a, b in [(0, 1), (1, 0), (2, 3), (3, 2)]:
            with self.assertRaises(There):
                tied(SQUARE, a, b)

    def test_too_many(self):
        for a, b in [(7, 8), (8, 7), (5, 3)]:
            with self.assertRaises(TooMany):
                tied(TWENTY, a, b)

    def test_there_comes_ahead_of_too_many(self):
        for a, b in TWENTY[1]:
            with self.assertRaises(There):
                tied(TWENTY, b, a)

    def test_no_tie(self):
        for web, a, b in [(SQUARE, 0, 2), (SQUARE, 3, 1), (NINE_ALONE, 0, 8), (TWENTY, 8, 7)]:
            with self.assertRaises(NoTie):
                untied(web, a, b)

    def test_all_pairs_of_many_webs(self):
        for web in small_webs(4) + mixed_webs(30, 5):
            for a, b in itertools.permutations(range(web[0]), 2):
                tie = (min(a, b), max(a, b))
                if tie in web[1]:
                    told = untied(web, a, b)
                    self.assertEqual((told[0], set(told[1])), (web[0], set(web[1]) - {tie}))
                    self.assertTrue(is_web(told))
                    self.assertEqual(tied(told, a, b), web)
                elif len(web[1]) < 20:
                    told = tied(web, a, b)
                    self.assertEqual((told[0], set(told[1])), (web[0], set(web[1]) | {tie}))
                    self.assertTrue(is_web(told))
                    self.assertEqual(untied(told, a, b), web)


class NothingIsChanged(unittest.TestCase):
    def test_things_handed_to_is_functions(self):
        for thing in OTHER_KINDS + [[3, [[0, 1]]], (3, [[0, 1]]), {"web": [3, {}]}]:
            kept = copy.deepcopy(thing)
            answers = (is_whole(thing), is_web(thing), is_ring(TRIANGLE, thing))
            self.assertEqual(thing, kept)
            self.assertEqual((is_whole(thing), is_web(thing), is_ring(TRIANGLE, thing)), answers)

    def test_webs_stay_and_answers_too(self):
        for web in mixed_webs(20, 6):
            kept = copy.deepcopy(web)
            first = [pieces(web), near(web, 0), drawn(web, 1, 3)]
            self.assertEqual(web, kept)
            self.assertEqual([pieces(web), near(web, 0), drawn(web, 1, 3)], first)


if __name__ == "__main__":
    unittest.main()
