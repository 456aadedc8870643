"""[0.2], [0.3] and stage 5: springs and mouths, and their turning."""

import copy
import unittest

from rillturn.errors import NoMouth, NoSpring
from rillturn.pointings import is_pointing
from rillturn.springs import mouths, springs, turn_mouth, turn_spring
from tests.samples import (
    BARE, NAMED_WEBS, NINE_ALONE, NINE_RING, PATH, SQUARE, THREE_PIECES, TRIANGLE, TWENTY, TWO, is_fall, mixed_falls,
    mixed_webs, slow_falls, slow_mouths, slow_springs, slow_turned, small_webs,
)


def web_falls():
    """Every fall of every small web, and mixed ones of greater webs."""
    pairs = [(web, fall) for web in small_webs(4) for fall in slow_falls(web)]
    pairs += [(web, fall) for web in NAMED_WEBS + mixed_webs(60, 71) for fall in mixed_falls(web, 4, 72)]
    return pairs


class SpringsAndMouths(unittest.TestCase):
    def test_examples(self):
        for web, fall, wanted_springs, wanted_mouths in [
            (BARE, (), (0,), (0,)),
            (NINE_ALONE, (), tuple(range(9)), tuple(range(9))),
            (TWO, (1,), (0,), (1,)),
            (TWO, (0,), (1,), (0,)),
            (PATH, (1, 1, 1), (0,), (3,)),
            (PATH, (0, 0, 0), (3,), (0,)),
            (PATH, (1, 0, 1), (0, 2), (1, 3)),
            (TRIANGLE, (0, 0, 1), (1,), (0,)),
            (SQUARE, (1, 1, 0, 1), (0, 2), (1, 3)),
            # 0 leads to 3 and 5, 5 to 3; 4 leads to 1; 2 has no tie and is both.
            (THREE_PIECES, (1, 1, 0, 0), (0, 2, 4), (1, 2, 3)),
            (NINE_RING, (1,) * 9, (0,), (8,)),
            (TWENTY, (1,) * 20, (0,), (3, 4, 5, 6, 7, 8)),
        ]:
            self.assertEqual(springs(web, fall), wanted_springs, (web, fall))
            self.assertEqual(mouths(web, fall), wanted_mouths, (web, fall))

    def test_just_the_places_to_which_or_from_which_no_tie_leads(self):
        for web, fall in web_falls():
            self.assertEqual(springs(web, fall), slow_springs(web, fall), (web, fall))
            self.assertEqual(mouths(web, fall), slow_mouths(web, fall), (web, fall))

    def test_a_fall_has_some_of_each(self):
        for web, fall in web_falls():
            self.assertTrue(springs(web, fall) and mouths(web, fall), (web, fall))

    def test_turned_about_wholly_springs_are_mouths(self):
        for web, fall in web_falls():
            about = tuple(1 - number for number in fall)
            self.assertEqual(springs(web, about), mouths(web, fall))
            self.assertEqual(mouths(web, about), springs(web, fall))


class Turning(unittest.TestCase):
    def test_examples(self):
        self.assertEqual(turn_spring(BARE, (), 0), ())
        self.assertEqual(turn_mouth(BARE, (), 0), ())
        self.assertEqual(turn_spring(TWO, (1,), 0), (0,))
        self.assertEqual(turn_mouth(TWO, (1,), 1), (0,))
        self.assertEqual(turn_spring(PATH, (1, 0, 1), 2), (1, 1, 0))
        self.assertEqual(turn_mouth(PATH, (1, 0, 1), 1), (0, 1, 1))
        self.assertEqual(turn_spring(TRIANGLE, (1, 1, 1), 0), (0, 0, 1))
        self.assertEqual(turn_mouth(TRIANGLE, (1, 1, 1), 2), (1, 0, 0))
        self.assertEqual(turn_spring(SQUARE, (1, 1, 0, 1), 2), (1, 1, 1, 0))
        self.assertEqual(turn_mouth(SQUARE, (1, 1, 0, 1), 3), (1, 0, 0, 0))

    def test_a_place_without_ties_changes_nothing(self):
        for place in range(9):
            self.assertEqual(turn_spring(NINE_ALONE, (), place), ())
            self.assertEqual(turn_mouth(NINE_ALONE, (), place), ())
        self.assertEqual(turn_spring(THREE_PIECES, (1, 1, 0, 0), 2), (1, 1, 0, 0))
        self.assertEqual(turn_mouth(THREE_PIECES, (1, 1, 0, 0), 2), (1, 1, 0, 0))

    def refused(self, error, deed, web, fall, place):
        with self.assertRaises(error) as caught:
            deed(web, fall, place)
        self.assertIs(caught.exception.__class__, error)

    def test_every_place(self):
        for web, fall in web_falls():
            for place in range(web[0]):
                self.check(web, fall, place)

    def check(self, web, fall, place):
        if place in slow_springs(web, fall):
            told = turn_spring(web, fall, place)
            self.assertEqual(told, slow_turned(web, fall, place), (web, fall, place))
            self.fell(web, told)
            self.assertIn(place, mouths(web, told))
            self.assertEqual(turn_mouth(web, told, place), fall)
        else:
            self.refused(NoSpring, turn_spring, web, fall, place)
        if place in slow_mouths(web, fall):
            told = turn_mouth(web, fall, place)
            self.assertEqual(told, slow_turned(web, fall, place), (web, fall, place))
            self.fell(web, told)
            self.assertIn(place, springs(web, told))
            self.assertEqual(turn_spring(web, told, place), fall)
        else:
            self.refused(NoMouth, turn_mouth, web, fall, place)

    def fell(self, web, pointing):
        self.assertIs(is_pointing(web, pointing), True)
        self.assertTrue(is_fall(web, pointing), (web, pointing))

    def test_a_mouth_is_no_spring_and_a_spring_no_mouth(self):
        self.refused(NoSpring, turn_spring, PATH, (1, 1, 1), 3)
        self.refused(NoMouth, turn_mouth, PATH, (1, 1, 1), 0)
        for place in (1, 2):
            self.refused(NoSpring, turn_spring, PATH, (1, 1, 1), place)
            self.refused(NoMouth, turn_mouth, PATH, (1, 1, 1), place)

    def test_the_same_answer_again_and_nothing_changed(self):
        for web in mixed_webs(20, 73):
            for fall in mixed_falls(web, 2, 74):
                kept = copy.deepcopy((web, fall))
                spring = springs(web, fall)[0]
                told = turn_spring(web, fall, spring)
                self.assertEqual(turn_spring(web, fall, spring), told)
                self.assertEqual((web, fall), kept)
                self.assertIs(springs(web, fall).__class__, tuple)
                self.assertIs(mouths(web, fall).__class__, tuple)


if __name__ == "__main__":
    unittest.main()
