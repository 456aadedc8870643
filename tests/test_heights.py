"""[0.2], [0.3] and stage 2: the longest way, the heights, and their judge."""

import copy
import itertools
import unittest

from rillturn.heights import longest, longest_right
from rillturn.pointings import looked
from tests.samples import (
    BARE, NINE_ALONE, NINE_RING, PATH, SQUARE, THREE_PIECES, TRIANGLE, TWENTY, all_pointings, leads, mixed_falls,
    mixed_webs, slow_height, slow_ways, small_webs,
)

DOWN = (1, 1, 1)


class Longest(unittest.TestCase):
    def test_examples(self):
        self.assertEqual(longest(PATH, (1, 1, 1)), (3, [0, 1, 2, 3], (0, 1, 2, 3)))
        self.assertEqual(longest(PATH, (0, 0, 0)), (3, [3, 2, 1, 0], (3, 2, 1, 0)))
        self.assertEqual(longest(TRIANGLE, (1, 1, 1)), (2, [0, 1, 2], (0, 1, 2)))
        self.assertEqual(longest(TRIANGLE, (0, 1, 1)), (2, [1, 0, 2], (1, 0, 2)))
        steps, way, heights = longest(PATH, (1, 0, 1))
        self.assertEqual((steps, heights), (1, (0, 1, 0, 1)))
        self.assertIn(way, [[0, 1], [2, 1], [2, 3]])
        steps, way, heights = longest(THREE_PIECES, (1, 1, 0, 0))
        self.assertEqual((steps, way, heights), (2, [0, 5, 3], (0, 1, 0, 2, 0, 1)))

    def test_steps_0(self):
        steps, way, heights = longest(BARE, ())
        self.assertEqual((steps, way, heights), (0, [0], (0,)))
        steps, way, heights = longest(NINE_ALONE, ())
        self.assertEqual((steps, heights), (0, (0,) * 9))
        self.assertIn(way, [[place] for place in range(9)])

    def test_the_largest_webs(self):
        steps, way, heights = longest(NINE_RING, (1,) * 9)
        self.assertEqual((steps, way, heights), (8, list(range(9)), tuple(range(9))))
        self.assertEqual(longest(TWENTY, (1,) * 20)[0], 3)

    def check(self, web, fall):
        steps, way, heights = longest(web, fall)
        self.assertEqual(heights, tuple(slow_height(web, fall, place) for place in range(web[0])), (web, fall))
        self.assertEqual(steps, max(heights), (web, fall))
        self.assertIs(way.__class__, list)
        self.assertIs(heights.__class__, tuple)
        self.assertEqual(len(way), steps + 1)
        self.assertTrue(all(pair in leads(web, fall) for pair in zip(way, way[1:])), (web, fall, way))
        self.assertIs(longest_right(web, fall, steps, way, heights), True, (web, fall))
        self.assertIs(longest_right(web, fall, steps, tuple(way), heights), True, (web, fall))

    def test_every_fall_of_every_small_web(self):
        for web in small_webs(4):
            for pointing in all_pointings(web):
                if looked(web, pointing)[0] == "order":
                    self.check(web, pointing)

    def test_mixed_falls(self):
        for web in mixed_webs(60, 14):
            for fall in mixed_falls(web, 4, 15):
                self.check(web, fall)

    def test_no_way_has_more_steps(self):
        for web in small_webs(4):
            for pointing in all_pointings(web):
                if looked(web, pointing)[0] == "order":
                    most = max(len(way) - 1 for way in slow_ways(web, pointing))
                    self.assertEqual(longest(web, pointing)[0], most)

    def test_a_list_of_the_askers_own(self):
        told = longest(PATH, DOWN)
        told[1].append(9)
        told[1][0] = None
        self.assertEqual(longest(PATH, DOWN), (3, [0, 1, 2, 3], (0, 1, 2, 3)))


class LongestRight(unittest.TestCase):
    def right(self, steps, way, heights):
        """Of the path that leads 0, 1, 2, 3."""
        return longest_right(PATH, DOWN, steps, way, heights)

    def test_what_is_right(self):
        self.assertIs(self.right(3, [0, 1, 2, 3], (0, 1, 2, 3)), True)
        self.assertIs(self.right(3, (0, 1, 2, 3), (0, 1, 2, 3)), True)

    def test_numbers_need_not_be_the_heights(self):
        # 0 leads to 1 leads to 2; 3 has no tie, and any number from 0 to 2 will do for it.
        web = (4, ((0, 1), (1, 2)))
        for number in range(-2, 6):
            wanted = 0 <= number <= 2
            self.assertIs(longest_right(web, (1, 1), 2, [0, 1, 2], (0, 1, 2, number)), wanted, number)
        # 3 leads to 2 alone, so that 0 and 1 will do for it.
        web = (4, ((0, 1), (1, 2), (2, 3)))
        self.assertIs(longest_right(web, (1, 1, 0), 2, [0, 1, 2], (0, 1, 2, 1)), True)
        self.assertIs(longest_right(web, (1, 1, 0), 2, [0, 1, 2], (0, 1, 2, 2)), False)

    def test_steps_one_off(self):
        for steps in [-(10 ** 18), -1, 0, 1, 2, 4, 5, 10 ** 18]:
            self.assertIs(self.right(steps, [0, 1, 2, 3], (0, 1, 2, 3)), False, steps)

    def test_a_way_with_too_few_or_too_many_places(self):
        for way in [[], [0], [0, 1, 2], [1, 2, 3], [0, 1, 2, 3, 3], [0, 1, 2, 3, 4], [0, 0, 1, 2, 3]]:
            self.assertIs(self.right(3, way, (0, 1, 2, 3)), False, way)
            self.assertIs(self.right(3, tuple(way), (0, 1, 2, 3)), False, way)
            self.assertIs(self.right(len(way) - 1, way, (0, 1, 2, 3)), False, way)

    def test_a_row_that_is_no_way(self):
        for way in [[0, 1, 3, 2], [3, 2, 1, 0], [0, 2, 1, 3], [0, 0, 0, 0], [1, 0, 1, 2], [0, 1, 2, 2]]:
            self.assertIs(self.right(3, way, (0, 1, 2, 3)), False, way)

    def test_a_shorter_way_with_numbers_that_fit_it_is_not_to_be_had(self):
        for way in slow_ways(PATH, DOWN):
            for heights in itertools.product(range(5), repeat=4):
                wanted = len(way) == 4 and heights == (0, 1, 2, 3)
                self.assertIs(self.right(len(way) - 1, way, heights), wanted, (way, heights))

    def test_numbers_in_the_way_that_are_no_places(self):
        for way in [[0, 1, 2, 4], [-1, 0, 1, 2], [-4, 1, 2, 3], [0, 1, 2, -1], [0, 1, 2, 10 ** 18], [-(10 ** 18), 1, 2, 3]]:
            self.assertIs(self.right(3, way, (0, 1, 2, 3)), False, way)
        for place in range(-12, 20):
            self.assertIs(longest_right(NINE_ALONE, (), 0, [place], (0,) * 9), 0 <= place < 9, place)
            self.assertIs(longest_right(BARE, (), 0, (place,), (0,)), place == 0, place)

    def test_numbers_one_off(self):
        for at in range(4):
            for off in [-(10 ** 18), -2, -1, 1, 2, 10 ** 18]:
                heights = [0, 1, 2, 3]
                heights[at] += off
                self.assertIs(self.right(3, [0, 1, 2, 3], tuple(heights)), False, heights)

    def test_all_numbers_moved_up_or_down(self):
        self.assertIs(self.right(3, [0, 1, 2, 3], (1, 2, 3, 4)), False)
        self.assertIs(self.right(3, [0, 1, 2, 3], (-1, 0, 1, 2)), False)
        self.assertIs(longest_right(BARE, (), 0, [0], (1,)), False)
        self.assertIs(longest_right(BARE, (), 0, [0], (-1,)), False)

    def test_too_few_and_too_many_numbers(self):
        for heights in [(), (0,), (0, 1, 2), (0, 1, 2, 3, 3), (0, 1, 2, 3, 0), (0, 0, 1, 2, 3)]:
            self.assertIs(self.right(3, [0, 1, 2, 3], heights), False, heights)
        for count in range(12):
            self.assertIs(longest_right(NINE_ALONE, (), 0, [4], (0,) * count), count == 9, count)

    def test_steps_0(self):
        self.assertIs(longest_right(BARE, (), 0, [0], (0,)), True)
        self.assertIs(longest_right(BARE, (), 0, [], (0,)), False)
        self.assertIs(longest_right(BARE, (), -1, [], (0,)), False)
        self.assertIs(longest_right(BARE, (), -1, [], ()), False)
        self.assertIs(longest_right(BARE, (), 1, [0, 0], (0,)), False)
        self.assertIs(longest_right(BARE, (), 1, [0], (0,)), False)
        self.assertIs(longest_right(TRIANGLE, (1, 1, 1), 0, [0], (0, 0, 0)), False)

    def test_equal_numbers_at_a_tie(self):
        self.assertIs(longest_right(TRIANGLE, (1, 1, 1), 2, [0, 1, 2], (0, 1, 1)), False)
        self.assertIs(longest_right(TRIANGLE, (1, 1, 1), 2, [0, 1, 2], (0, 2, 2)), False)
        self.assertIs(longest_right(TRIANGLE, (1, 1, 1), 2, [0, 1, 2], (0, 0, 2)), False)

    def test_truths_are_no_numbers_and_a_list_is_no_tuple(self):
        self.assertIs(longest_right(BARE, (), False, [0], (0,)), False)
        self.assertIs(longest_right(BARE, (), 0, [False], (0,)), False)
        self.assertIs(self.right(3, [0, True, 2, 3], (0, 1, 2, 3)), False)
        self.assertIs(self.right(3, [0, 1, 2, 3], (0, True, 2, 3)), False)
        self.assertIs(longest_right(BARE, (), 0, [0], (False,)), False)
        self.assertIs(longest_right(BARE, (), 0, [0], [0]), False)

    def test_what_it_lets_by_is_so(self):
        for web in small_webs(3) + [SQUARE]:
            for pointing in all_pointings(web):
                if looked(web, pointing)[0] == "round":
                    continue
                self.let_by_is_so(web, pointing)

    def let_by_is_so(self, web, fall):
        ways = slow_ways(web, fall)
        most = max(len(way) - 1 for way in ways)
        rows = [list(row) for count in range(4) for row in itertools.product(range(-1, web[0] + 1), repeat=count)]
        for heights in itertools.product(range(-1, most + 2), repeat=web[0]):
            fits = all(0 <= number <= most for number in heights)
            fits = fits and all(heights[a] < heights[b] for a, b in leads(web, fall))
            for row in ways if web == SQUARE else rows:
                wanted = fits and len(row) == most + 1 and row in ways
                self.assertIs(longest_right(web, fall, len(row) - 1, row, heights), wanted, (web, fall, row, heights))

    def test_nothing_handed_in_is_changed(self):
        for way in [[0, 1, 2, 3], [3, 2, 1, 0], [0, 1], [], [9]]:
            kept = copy.deepcopy(way)
            first = self.right(3, way, (0, 1, 2, 3))
            self.assertEqual(way, kept)
            self.assertIs(self.right(3, way, (0, 1, 2, 3)), first)


if __name__ == "__main__":
    unittest.main()
