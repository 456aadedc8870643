"""[0.2] to [0.4] and stage 6: seats, and all falls that are seated at a place."""

import copy
import unittest

from rillturn.errors import Apart, TooMany
from rillturn.kin import kin
from rillturn.pointings import is_pointing
from rillturn.seats import seat, seated
from tests.samples import (
    BARE, FIVE_RING, JUST_MANY_KINS, NINE_ALONE, NINE_RING, NINE_ROW, PATH, SIX, SIX_CROWD, SPINDLE, SQUARE, STAR,
    THREE_PIECES, TRIANGLE, TWENTY, TWENTY_MIXED, TWO, TWO_RINGS, WHEEL, is_fall, is_whole_web, mixed_falls, mixed_webs,
    mixed_whole_webs, numbers_from, slow_falls, slow_kin, slow_kin_count, slow_springs, slow_turned, small_webs,
)

WHOLE_WEBS = [
    BARE, TWO, TRIANGLE, SQUARE, PATH, FIVE_RING, NINE_RING, NINE_ROW, STAR, WHEEL, SPINDLE, SIX, JUST_MANY_KINS,
    TWENTY, TWENTY_MIXED,
]
APART_WEBS = [(2, ()), NINE_ALONE, THREE_PIECES, TWO_RINGS, SIX_CROWD]


def slow_seat(web, fall, place, pick):
    """Other springs turned in an order that is picked, and the counts."""
    counts = [0] * web[0]
    while slow_springs(web, fall) != (place,):
        ready = [spring for spring in slow_springs(web, fall) if spring != place]
        spring = ready[pick(len(ready))]
        counts[spring] += 1
        fall = slow_turned(web, fall, spring)
    return fall, tuple(counts)


class Seat(unittest.TestCase):
    def test_examples(self):
        self.assertEqual(seat(BARE, (), 0), ((), (0,)))
        self.assertEqual(seat(TWO, (1,), 0), ((1,), (0, 0)))
        self.assertEqual(seat(TWO, (1,), 1), ((0,), (1, 0)))
        self.assertEqual(seat(PATH, (1, 1, 1), 0), ((1, 1, 1), (0, 0, 0, 0)))
        self.assertEqual(seat(PATH, (1, 1, 1), 3), ((0, 0, 0), (3, 2, 1, 0)))
        self.assertEqual(seat(TRIANGLE, (1, 1, 1), 2), ((1, 0, 0), (1, 1, 0)))
        self.assertEqual(seat(SQUARE, (1, 1, 0, 1), 0), ((1, 1, 1, 0), (0, 0, 1, 0)))

    def check(self, web, fall, place, row):
        told = seat(web, fall, place)
        self.assertIs(told.__class__, tuple)
        seated_fall, counts = told
        self.assertIs(counts.__class__, tuple)
        self.assertIs(is_pointing(web, seated_fall), True)
        self.assertTrue(is_fall(web, seated_fall))
        self.assertEqual(slow_springs(web, seated_fall), (place,), (web, fall, place))
        for pick in (lambda many: 0, lambda many: many - 1, lambda many: next(row) % many):
            self.assertEqual(slow_seat(web, fall, place, pick), told, (web, fall, place))
        return seated_fall

    def test_every_fall_and_place_of_every_small_web(self):
        row = numbers_from(111)
        for web in small_webs(4) + [FIVE_RING]:
            if not is_whole_web(web):
                continue
            for fall in slow_falls(web):
                found = slow_kin(web, fall)
                for place in range(web[0]):
                    told = self.check(web, fall, place, row)
                    alike = [other for other in found if slow_springs(web, other) == (place,)]
                    self.assertEqual(alike, [told], (web, fall, place))

    def test_mixed_falls(self):
        row = numbers_from(112)
        for web in WHOLE_WEBS + mixed_whole_webs(60, 113):
            for fall in mixed_falls(web, 3, 114):
                for place in range(web[0]):
                    told = self.check(web, fall, place, row)
                    self.assertEqual(kin(web, fall, told)[0], "turns")
                    self.assertEqual(seat(web, told, place), (told, (0,) * web[0]))

    def test_kin_have_one_seat(self):
        for web in WHOLE_WEBS:
            fall = mixed_falls(web, 1, 115)[0]
            for place in range(web[0]):
                told = seat(web, fall, place)[0]
                for other in sorted(slow_kin(web, fall))[::7]:
                    self.assertEqual(seat(web, other, place)[0], told)

    def test_apart(self):
        apart = [web for web in small_webs(4) + mixed_webs(40, 116) if not is_whole_web(web)]
        for web in APART_WEBS + apart:
            for place in range(web[0]):
                with self.assertRaises(Apart) as caught:
                    seat(web, mixed_falls(web, 1, 117)[0], place)
                self.assertIs(caught.exception.__class__, Apart)

    def test_apart_though_but_one_spring_is_tied(self):
        # 2 has no tie: no fall has one spring alone.
        web = (3, ((0, 1),))
        for place in range(3):
            with self.assertRaises(Apart):
                seat(web, (1,), place)

    def test_the_same_answer_again_and_nothing_changed(self):
        for web in mixed_whole_webs(10, 118):
            fall = mixed_falls(web, 1, 119)[0]
            kept = copy.deepcopy((web, fall))
            self.assertEqual(seat(web, fall, 2), seat(web, fall, 2))
            self.assertEqual((web, fall), kept)


class Seated(unittest.TestCase):
    def test_examples(self):
        self.assertEqual(seated(BARE, 0), [()])
        self.assertEqual(seated(TWO, 0), [(1,)])
        self.assertEqual(seated(TWO, 1), [(0,)])
        self.assertEqual(seated(PATH, 2), [(0, 0, 1)])
        self.assertEqual(seated(TRIANGLE, 0), [(1, 1, 0), (1, 1, 1)])
        self.assertEqual(seated(TRIANGLE, 2), [(0, 0, 0), (1, 0, 0)])
        self.assertEqual(seated(SQUARE, 0), [(1, 1, 0, 0), (1, 1, 1, 0), (1, 1, 1, 1)])

    def test_every_place_of_every_small_web(self):
        for web in small_webs(4) + [FIVE_RING]:
            if not is_whole_web(web):
                continue
            falls = slow_falls(web)
            for place in range(web[0]):
                wanted = [fall for fall in falls if slow_springs(web, fall) == (place,)]
                told = seated(web, place)
                self.assertIs(told.__class__, list)
                self.assertEqual(told, sorted(wanted), (web, place))

    def check(self, web, many):
        """Told or refused, of webs of any size."""
        for place in range(web[0]):
            if many > 120:
                with self.assertRaises(TooMany) as caught:
                    seated(web, place)
                self.assertIs(caught.exception.__class__, TooMany)
                continue
            told = seated(web, place)
            self.assertEqual(told, sorted(set(told)), (web, place))
            self.assertEqual(len(told), many, (web, place))
            for fall in told:
                self.assertIs(is_pointing(web, fall), True)
                self.assertTrue(is_fall(web, fall), (web, place, fall))
                self.assertEqual(slow_springs(web, fall), (place,), (web, place, fall))

    def test_greater_webs(self):
        told, refused = 0, 0
        for web in WHOLE_WEBS + mixed_whole_webs(60, 120):
            many = slow_kin_count(web)
            self.check(web, many)
            told, refused = told + (many <= 120), refused + (many > 120)
        self.assertGreater(min(told, refused), 15)

    def test_one_of_each_kin(self):
        for web in [SQUARE, FIVE_RING, WHEEL, SPINDLE, NINE_RING] + mixed_whole_webs(20, 121, 12):
            told = seated(web, 1)
            for fall in mixed_falls(web, 6, 122):
                alike = [other for other in told if kin(web, fall, other)[0] == "turns"]
                self.assertEqual(alike, [seat(web, fall, 1)[0]], (web, fall))

    def test_just_above_120(self):
        self.assertEqual(slow_kin_count(SIX), 120)
        self.assertEqual([len(seated(SIX, place)) for place in range(6)], [120] * 6)
        longer = (9, tuple(sorted(SIX[1] + ((0, 6), (6, 7), (5, 8)))))
        self.assertEqual(len(seated(longer, 8)), 120)
        self.assertEqual(slow_kin_count(JUST_MANY_KINS), 122)
        self.check(JUST_MANY_KINS, 122)

    def test_apart(self):
        apart = [web for web in small_webs(4) + mixed_webs(40, 123) if not is_whole_web(web)]
        for web in APART_WEBS + apart:
            for place in range(web[0]):
                with self.assertRaises(Apart) as caught:
                    seated(web, place)
                self.assertIs(caught.exception.__class__, Apart)

    def test_apart_comes_ahead_of_too_many(self):
        # The crowd of six and one place more at it have 120 kins and more; 7 and 8 are apart.
        web = (9, tuple(sorted(SIX[1] + ((0, 6), (1, 6), (7, 8)))))
        for place in range(9):
            with self.assertRaises(Apart):
                seated(web, place)

    def test_a_list_of_the_askers_own(self):
        told = seated(TRIANGLE, 0)
        told.append(None)
        told[0] = "other"
        self.assertEqual(seated(TRIANGLE, 0), [(1, 1, 0), (1, 1, 1)])
        seated(BARE, 0).clear()
        self.assertEqual(seated(BARE, 0), [()])


if __name__ == "__main__":
    unittest.main()
