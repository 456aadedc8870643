"""[0.2] to [0.4] and stage 4: ties turned, free ties, roads, all falls."""

import copy
import itertools
import unittest

from rillturn.errors import TooMany
from rillturn.pointings import is_pointing
from rillturn.turning import all_falls, free_ties, road, road_right, turned
from rillturn.webs import pieces
from tests.samples import (
    BARE, FIVE_RING, NAMED_WEBS, NINE_ALONE, NINE_RING, NINETEEN, PATH, SPINDLE, SQUARE, THREE_PIECES, TRIANGLE, TWENTY,
    TWENTY_MIXED, TWO, WHEEL, all_pointings, flipped, is_fall, leads, mixed_falls, mixed_pointings, mixed_webs,
    numbers_from, slow_fall_count, slow_falls, slow_ways, small_webs, some_falls,
)

ODD_NUMBERS = [-(10 ** 18), -21, -20, -2, -1, 20, 21, 36, 10 ** 18]
# A web with 294 falls and one with 304.
JUST_FEW = (7, ((0, 2), (0, 4), (0, 5), (0, 6), (1, 2), (1, 6), (2, 5), (3, 4), (3, 5)))
JUST_MANY = (7, ((0, 1), (0, 3), (0, 6), (1, 2), (1, 4), (2, 3), (2, 6), (3, 5), (4, 6)))


def pointed_otherwise(one, other):
    return [at for at in range(len(one)) if one[at] != other[at]]


def slow_road(web, one, other, row):
    """Whether a row is a road, each pointing on it being looked at slowly."""
    for k in row:
        if k not in range(len(web[1])):
            return False
        one = flipped(one, k)
        if not is_fall(web, one):
            return False
    return one == other


class Turned(unittest.TestCase):
    def test_examples(self):
        self.assertEqual(turned(TWO, (1,), 0), (0,))
        self.assertEqual(turned(TWO, (0,), 0), (1,))
        self.assertEqual(turned(TRIANGLE, (1, 1, 1), 1), (1, 0, 1))
        self.assertEqual(turned(TRIANGLE, (1, 0, 1), 1), (1, 1, 1))
        self.assertEqual(turned(SQUARE, (0, 0, 0, 0), 3), (0, 0, 0, 1))
        self.assertEqual(turned(TWENTY, (1,) * 20, 19), (1,) * 19 + (0,))

    def test_any_pointing_with_a_round_or_without(self):
        for web in small_webs(4):
            for pointing in all_pointings(web):
                for k in range(len(web[1])):
                    self.assertEqual(turned(web, pointing, k), flipped(pointing, k))
        for web in NAMED_WEBS + mixed_webs(40, 51):
            for pointing in mixed_pointings(web, 4, 52):
                for k in range(len(web[1])):
                    told = turned(web, pointing, k)
                    self.assertIs(is_pointing(web, told), True)
                    self.assertEqual(pointed_otherwise(told, pointing), [k])
                    self.assertEqual(turned(web, told, k), pointing)


class FreeTies(unittest.TestCase):
    def test_examples(self):
        self.assertEqual(free_ties(BARE, ()), [])
        self.assertEqual(free_ties(NINE_ALONE, ()), [])
        self.assertEqual(free_ties(TWO, (0,)), [0])
        self.assertEqual(free_ties(PATH, (1, 0, 1)), [0, 1, 2])
        self.assertEqual(free_ties(TRIANGLE, (1, 1, 1)), [0, 2])
        self.assertEqual(free_ties(TRIANGLE, (0, 0, 0)), [0, 2])
        self.assertEqual(free_ties(TRIANGLE, (0, 1, 1)), [0, 1])
        self.assertEqual(free_ties(SQUARE, (1, 1, 1, 1)), [0, 2, 3])
        self.assertEqual(free_ties(SQUARE, (1, 1, 0, 1)), [0, 1, 2, 3])
        self.assertEqual(free_ties(NINE_RING, (1,) * 9), [0, 2, 3, 4, 5, 6, 7, 8])

    def check(self, web, fall):
        told = free_ties(web, fall)
        self.assertIs(told.__class__, list)
        wanted = [k for k in range(len(web[1])) if is_fall(web, flipped(fall, k))]
        self.assertEqual(told, wanted, (web, fall))
        self.assertGreaterEqual(len(told), web[0] - len(pieces(web)), (web, fall))

    def test_every_fall_of_every_small_web(self):
        for web in small_webs(4):
            for fall in slow_falls(web):
                self.check(web, fall)

    def test_mixed_falls(self):
        for web in NAMED_WEBS + mixed_webs(80, 53):
            for fall in mixed_falls(web, 5, 54):
                self.check(web, fall)

    def test_no_other_way_leads_along_a_free_tie(self):
        for web in small_webs(4) + [FIVE_RING, THREE_PIECES]:
            for fall in some_falls(web, 4, 55):
                ways = slow_ways(web, fall)
                arrows = [pair if number else pair[::-1] for pair, number in zip(web[1], fall)]
                self.assertEqual(set(arrows), leads(web, fall))
                for k, (a, b) in enumerate(arrows):
                    others = [way for way in ways if len(way) > 2 and way[0] == a and way[-1] == b]
                    self.assertEqual(k in free_ties(web, fall), not others, (web, fall, k))

    def test_as_few_as_there_are_places_less_pieces(self):
        for many in range(1, 7):
            web = (many, tuple(itertools.combinations(range(many), 2)))
            for fall in mixed_falls(web, 5, 56):
                self.assertEqual(len(free_ties(web, fall)), many - 1)

    def test_a_list_of_the_askers_own(self):
        told = free_ties(TRIANGLE, (1, 1, 1))
        told.append(9)
        told[0] = None
        self.assertEqual(free_ties(TRIANGLE, (1, 1, 1)), [0, 2])
        free_ties(BARE, ()).append(1)
        self.assertEqual(free_ties(BARE, ()), [])


class Road(unittest.TestCase):
    def test_examples(self):
        self.assertEqual(road(BARE, (), ()), [])
        self.assertEqual(road(NINE_ALONE, (), ()), [])
        self.assertEqual(road(TWO, (1,), (0,)), [0])
        self.assertEqual(road(TRIANGLE, (1, 1, 1), (0, 1, 1)), [0])
        # The tie of 0 and 2 may not be turned ahead of both others.
        self.assertIn(road(TRIANGLE, (1, 1, 1), (0, 0, 0)), [[0, 1, 2], [2, 1, 0]])
        self.assertEqual(road(TRIANGLE, (1, 1, 1), (0, 0, 1)), [0, 1])
        self.assertEqual(road(TRIANGLE, (1, 1, 1), (1, 0, 0)), [2, 1])
        self.assertEqual(sorted(road(PATH, (1, 1, 1), (0, 1, 0))), [0, 2])

    def check(self, web, one, other):
        told = road(web, one, other)
        self.assertIs(told.__class__, list)
        self.assertEqual(sorted(told), pointed_otherwise(one, other), (web, one, other))
        self.assertTrue(slow_road(web, one, other, told), (web, one, other, told))
        self.assertIs(road_right(web, one, other, told), True, (web, one, other, told))
        self.assertIs(road_right(web, one, other, tuple(told)), True)
        self.assertIs(road_right(web, other, one, told[::-1]), True)
        return told

    def test_every_two_falls_of_every_small_web(self):
        for web in small_webs(4):
            for one, other in itertools.product(slow_falls(web), repeat=2):
                self.check(web, one, other)

    def test_mixed_falls(self):
        for web in NAMED_WEBS + mixed_webs(60, 57):
            falls = mixed_falls(web, 3, 58)
            for one, other in itertools.product(falls, repeat=2):
                self.check(web, one, other)
            for fall in falls:
                self.check(web, fall, tuple(1 - number for number in fall))

    def test_from_a_fall_to_itself_there_is_none_to_turn(self):
        for web in NAMED_WEBS + mixed_webs(30, 59):
            for fall in mixed_falls(web, 3, 60):
                self.assertEqual(road(web, fall, fall), [])

    def test_a_list_of_the_askers_own(self):
        one, other = (1, 1, 1), (0, 0, 1)
        told = road(TRIANGLE, one, other)
        told.append(9)
        told[0] = None
        self.assertEqual(road(TRIANGLE, one, other), [0, 1])
        road(TRIANGLE, one, one).append(5)
        self.assertEqual(road(TRIANGLE, one, one), [])

    def test_the_same_answer_again_and_nothing_changed(self):
        for web in mixed_webs(20, 61):
            one, other = mixed_falls(web, 2, 62)
            kept = copy.deepcopy((web, one, other))
            told = road(web, one, other)
            self.assertEqual(road(web, one, other), told)
            self.assertEqual((web, one, other), kept)


class RoadRight(unittest.TestCase):
    def compare(self, web, one, other, row):
        wanted = slow_road(web, one, other, row)
        kept = list(row)
        self.assertIs(road_right(web, one, other, row), wanted, (web, one, other, row))
        self.assertEqual(row, kept)
        return wanted

    def test_all_rows_of_small_webs(self):
        for web in [BARE, (2, ()), TWO, (3, ((0, 2),)), (3, ((0, 1), (1, 2))), TRIANGLE]:
            numbers = range(-1, len(web[1]) + 1)
            rows = [list(row) for count in range(5) for row in itertools.product(numbers, repeat=count)]
            for one, other in itertools.product(slow_falls(web), repeat=2):
                for row in rows:
                    self.compare(web, one, other, row)

    def test_the_empty_row(self):
        for web in small_webs(3) + [SQUARE]:
            for one, other in itertools.product(slow_falls(web), repeat=2):
                self.assertIs(road_right(web, one, other, []), one == other)
                self.assertIs(road_right(web, one, other, ()), one == other)

    def test_a_round_on_the_way(self):
        # The triangle's middle tie ahead of both others makes a round, though the last pointing is a fall.
        self.assertIs(road_right(TRIANGLE, (1, 1, 1), (0, 0, 0), [1, 0, 2]), False)
        self.assertIs(road_right(TRIANGLE, (1, 1, 1), (0, 0, 0), [0, 2, 1]), False)
        self.assertIs(road_right(TRIANGLE, (1, 1, 1), (0, 0, 0), [0, 1, 2]), True)
        self.assertIs(road_right(TRIANGLE, (1, 1, 1), (0, 0, 0), [2, 1, 0]), True)
        self.assertIs(road_right(TRIANGLE, (1, 1, 1), (1, 1, 1), [1, 1]), False)
        self.assertIs(road_right(TRIANGLE, (1, 1, 1), (1, 1, 1), [0, 0]), True)

    def test_rows_that_end_elsewhere(self):
        self.assertIs(road_right(PATH, (1, 1, 1), (0, 1, 0), [0]), False)
        self.assertIs(road_right(PATH, (1, 1, 1), (0, 1, 0), [0, 2]), True)
        self.assertIs(road_right(PATH, (1, 1, 1), (0, 1, 0), [0, 2, 1]), False)
        self.assertIs(road_right(PATH, (1, 1, 1), (0, 1, 0), [1, 0, 2, 1]), True)

    def changed_rows(self, web, row):
        """Rows with a number changed, left out, put in, two exchanged."""
        numbers = list(range(len(web[1]))) + ODD_NUMBERS + [len(web[1])]
        found = []
        for at in range(len(row)):
            found.append(row[:at] + row[at + 1:])
            found.extend(row[:at] + [number] + row[at + 1:] for number in numbers)
            for to in range(at + 1, len(row)):
                found.append(row[:at] + [row[to]] + row[at + 1:to] + [row[at]] + row[to + 1:])
        for at in range(len(row) + 1):
            found.extend(row[:at] + [number] + row[at:] for number in numbers)
        return found

    def test_told_roads_and_changed_ones(self):
        answers = []
        for web in [BARE, TWO, TRIANGLE, SQUARE, THREE_PIECES, WHEEL, NINE_ALONE, TWENTY_MIXED] + mixed_webs(8, 63):
            one, other = mixed_falls(web, 2, 64)
            told = road(web, one, other)
            self.assertIs(self.compare(web, one, other, told), True)
            answers.extend(self.compare(web, one, other, row) for row in self.changed_rows(web, told))
        # Two ties that don't touch may be exchanged, others may not.
        self.assertGreater(answers.count(True), 20)
        self.assertGreater(answers.count(False), 20)

    def test_longer_rows(self):
        row_of_numbers = numbers_from(65)
        for web in [web for web in NAMED_WEBS if web[1]] + [web for web in mixed_webs(20, 66) if web[1]]:
            one = mixed_falls(web, 1, 67)[0]
            for length in (2, 7, 20, 40):
                fall, row = one, []
                for _ in range(length):
                    free = free_ties(web, fall)
                    row.append(free[next(row_of_numbers) % len(free)])
                    fall = flipped(fall, row[-1])
                self.assertIs(self.compare(web, one, fall, row), True)
                self.compare(web, fall, one, row)
                self.assertIs(self.compare(web, fall, one, row[::-1]), True)
                self.assertIs(self.compare(web, one, fall, row[:-1]), False)
                self.assertIs(self.compare(web, one, fall, row + [row[-1]]), False)
                for wrong in ODD_NUMBERS + [len(web[1])]:
                    at = next(row_of_numbers) % length
                    self.assertIs(self.compare(web, one, fall, row[:at] + [wrong] + row[at + 1:]), False)
                    self.assertIs(self.compare(web, one, fall, row[:at] + [wrong] + row[at:]), False)

    def test_numbers_below_0_are_no_ties(self):
        # From the end, as Python counts, these would be free ties.
        self.assertIs(road_right(TWO, (1,), (0,), [-1]), False)
        self.assertIs(road_right(PATH, (1, 1, 1), (0, 1, 1), [-3]), False)
        self.assertIs(road_right(PATH, (1, 1, 1), (1, 1, 0), [-1]), False)
        for number in [-1, 0, 1, 10 ** 18]:
            self.assertIs(road_right(BARE, (), (), [number]), False)
            self.assertIs(road_right(NINE_ALONE, (), (), [number, number]), False)

    def test_truths_and_rows_of_other_kinds(self):
        self.assertIs(road_right(TWO, (1,), (0,), [False]), False)
        self.assertIs(road_right(PATH, (1, 1, 1), (1, 0, 1), [True]), False)
        self.assertIs(road_right(TWO, (1,), (0,), ["0"]), False)
        self.assertIs(road_right(TWO, (1,), (0,), [None]), False)
        self.assertIs(road_right(TWO, (1,), (1,), ""), False)
        self.assertIs(road_right(TWO, (1,), (1,), None), False)


class AllFalls(unittest.TestCase):
    def test_examples(self):
        self.assertEqual(all_falls(BARE), [()])
        self.assertEqual(all_falls(NINE_ALONE), [()])
        self.assertEqual(all_falls(TWO), [(0,), (1,)])
        self.assertEqual(all_falls((3, ((0, 1), (1, 2)))), [(0, 0), (0, 1), (1, 0), (1, 1)])
        triangle = [(0, 0, 0), (0, 0, 1), (0, 1, 1), (1, 0, 0), (1, 1, 0), (1, 1, 1)]
        self.assertEqual(all_falls(TRIANGLE), triangle)

    def check(self, web):
        told = all_falls(web)
        self.assertIs(told.__class__, list)
        self.assertEqual(told, sorted(slow_falls(web)), web)
        self.assertTrue(all(is_pointing(web, fall) for fall in told))

    def test_all_small_webs(self):
        for web in small_webs(4):
            self.check(web)

    def test_webs_with_many_falls(self):
        for web in [FIVE_RING, THREE_PIECES, JUST_FEW, (5, tuple(itertools.combinations(range(5), 2)))]:
            self.check(web)
        self.assertEqual(len(all_falls(JUST_FEW)), 294)
        self.assertEqual(len(all_falls((9, NINE_RING[1][:1] + NINE_RING[1][2:]))), 256)

    def refused(self, web):
        with self.assertRaises(TooMany) as caught:
            all_falls(web)
        self.assertIs(caught.exception.__class__, TooMany)

    def test_too_many(self):
        self.assertEqual(slow_fall_count(JUST_FEW), 294)
        self.assertEqual(slow_fall_count(JUST_MANY), 304)
        self.assertEqual(len(slow_falls(JUST_MANY)), 304)
        for web in [JUST_MANY, NINE_RING, SPINDLE, NINETEEN, TWENTY, TWENTY_MIXED]:
            self.refused(web)

    def test_refused_just_above_300(self):
        told, refused = 0, 0
        for web in NAMED_WEBS + mixed_webs(200, 68):
            if slow_fall_count(web) > 300:
                self.refused(web)
                refused += 1
                continue
            falls = all_falls(web)
            self.assertEqual(len(falls), slow_fall_count(web), web)
            self.assertEqual(falls, sorted(set(falls)), web)
            self.assertTrue(all(is_fall(web, fall) for fall in falls), web)
            told += 1
        self.assertGreater(min(told, refused), 30)

    def test_a_list_of_the_askers_own(self):
        told = all_falls(TRIANGLE)
        kept = list(told)
        told.append("more")
        told[0] = None
        self.assertEqual(all_falls(TRIANGLE), kept)
        all_falls(BARE).clear()
        self.assertEqual(all_falls(BARE), [()])

    def test_from_every_fall_each_other_one_is_come_to(self):
        for web in [FIVE_RING, THREE_PIECES, (5, tuple(itertools.combinations(range(5), 2)))]:
            falls = all_falls(web)
            for other in falls:
                row = road(web, falls[0], other)
                self.assertEqual(sorted(row), pointed_otherwise(falls[0], other))
                self.assertTrue(slow_road(web, falls[0], other, row))


if __name__ == "__main__":
    unittest.main()
