"""[0.2] to [0.4], [5.2] to [5.4]: along and marks, kin, rows of springs or a ring, and their judge."""

import copy
import itertools
import unittest

from rillturn.kin import along, kin, kin_right, mark
from rillturn.webs import is_ring, pieces
from tests.samples import (
    BARE, FIVE_RING, JUST_MANY_KINS, NAMED_WEBS, NINE_ALONE, NINE_RING, NINE_ROW, PATH, SIX, SPINDLE, SQUARE, STAR,
    THREE_PIECES, TRIANGLE, TWENTY, TWENTY_MIXED, TWO, TWO_RINGS, WHEEL, all_pointings, all_turned_rings, mixed_falls,
    mixed_pointings, mixed_webs, numbers_from, slow_along, slow_falls, slow_kin, slow_rings, slow_springs, slow_turned,
    small_webs, turned_rings,
)

MORE_WEBS = NAMED_WEBS + [NINE_ROW, STAR, TWO_RINGS, SIX, JUST_MANY_KINS]
ODD_NUMBERS = [-(10 ** 18), -9, -2, -1, 9, 10, 36, 10 ** 18]


def slow_turns(web, one, other, row):
    """Whether a row is one of springs that leads from one fall to another one, looked at slowly."""
    for place in row:
        if place not in slow_springs(web, one):
            return False
        one = slow_turned(web, one, place)
    return one == other


def slow_mark(web, pointing):
    """The mark, each ring being found among all rings of the web of the laid ties and one more."""
    laid, told = [], []
    for a, b in web[1]:
        rings = slow_rings((web[0], tuple(sorted(laid + [(a, b)]))))
        if not rings:
            laid.append((a, b))
            continue
        only = rings[0]
        assert len(rings) == 1
        told.extend(slow_along(web, pointing, ring) for ring in turned_rings(only) if ring[:2] == (a, b))
    return told


def far_kin(web, fall, row, turns):
    """A kin that is come to by so many turns of any springs, and these turns."""
    gone = []
    for _ in range(turns):
        ready = slow_springs(web, fall)
        gone.append(ready[next(row) % len(ready)])
        fall = slow_turned(web, fall, gone[-1])
    return fall, gone


class Along(unittest.TestCase):
    def test_examples(self):
        self.assertEqual(along(TRIANGLE, (1, 1, 1), (0, 1, 2)), 2)
        self.assertEqual(along(TRIANGLE, (1, 1, 1), (2, 1, 0)), 1)
        # With a round: 0 to 1, 1 to 2, 2 to 0.
        self.assertEqual(along(TRIANGLE, (1, 0, 1), (0, 1, 2)), 3)
        self.assertEqual(along(TRIANGLE, (1, 0, 1), (2, 1, 0)), 0)
        self.assertEqual(along(SQUARE, (1, 1, 0, 1), (0, 1, 2, 3)), 2)
        self.assertEqual(along(NINE_RING, (1,) * 9, tuple(range(9))), 8)
        self.assertEqual(along(THREE_PIECES, (1, 1, 0, 0), (3, 0, 5)), 2)

    def test_every_ring_from_any_place_on_and_either_way_about(self):
        for web in small_webs(4) + [FIVE_RING, THREE_PIECES]:
            for ring in slow_rings(web):
                for pointing in all_pointings(web):
                    for row in turned_rings(ring):
                        told = along(web, pointing, row)
                        self.assertEqual(told, slow_along(web, pointing, row), (web, pointing, row))
                    self.assertEqual(along(web, pointing, ring) + along(web, pointing, ring[::-1]), len(ring))

    def test_mixed_pointings_and_falls(self):
        for web in MORE_WEBS + mixed_webs(40, 81):
            for pointing in mixed_pointings(web, 2, 82) + mixed_falls(web, 2, 83):
                for ring in slow_rings(web)[::7]:
                    for row in (ring, ring[2:] + ring[:2], ring[::-1]):
                        wanted = slow_along(web, pointing, row)
                        self.assertEqual(along(web, pointing, row), wanted, (web, pointing, row))


class Mark(unittest.TestCase):
    def test_examples(self):
        # The tie of 1 and 2 comes last: the ring is 1, 2, 0.
        self.assertEqual(mark(TRIANGLE, (1, 1, 1)), [2])
        self.assertEqual(mark(TRIANGLE, (0, 0, 0)), [1])
        self.assertEqual(mark(TRIANGLE, (1, 0, 1)), [3])
        self.assertEqual(mark(TRIANGLE, (0, 1, 0)), [0])
        # The tie of 2 and 3 comes last: the ring is 2, 3, 0, 1.
        self.assertEqual(mark(SQUARE, (1, 1, 1, 1)), [3])
        self.assertEqual(mark(SQUARE, (0, 1, 1, 1)), [2])
        self.assertEqual(mark(NINE_RING, (1,) * 9), [8])
        self.assertEqual(mark(NINE_RING, (0,) * 9), [1])

    def test_none_where_no_tie_closes_a_ring(self):
        for web in [BARE, TWO, PATH, NINE_ALONE, NINE_ROW, STAR]:
            for pointing in mixed_pointings(web, 4, 84):
                self.assertEqual(mark(web, pointing), [])
                self.assertIs(mark(web, pointing).__class__, list)

    def check(self, web, pointing):
        told = mark(web, pointing)
        self.assertIs(told.__class__, list)
        self.assertEqual(told, slow_mark(web, pointing), (web, pointing))
        self.assertEqual(len(told), len(web[1]) - web[0] + len(pieces(web)))

    def test_every_pointing_of_every_small_web(self):
        for web in small_webs(4) + [FIVE_RING, THREE_PIECES]:
            for pointing in all_pointings(web):
                self.check(web, pointing)

    def test_mixed_pointings(self):
        for web in MORE_WEBS + mixed_webs(60, 85):
            for pointing in mixed_pointings(web, 2, 86) + mixed_falls(web, 2, 87):
                self.check(web, pointing)

    def test_falls_are_kin_just_where_marks_are_the_same(self):
        for web in small_webs(4) + [FIVE_RING, THREE_PIECES, SPINDLE, WHEEL]:
            falls = slow_falls(web) if len(web[1]) <= 6 else mixed_falls(web, 12, 88)
            for one in falls:
                found = slow_kin(web, one)
                for other in falls:
                    self.assertEqual(mark(web, one) == mark(web, other), other in found, (web, one, other))

    def test_kin_have_as_many_along_each_ring(self):
        for web in [TRIANGLE, SQUARE, FIVE_RING, THREE_PIECES, WHEEL, SPINDLE, TWO_RINGS]:
            rings = slow_rings(web)
            falls = slow_falls(web) if len(web[1]) <= 6 else mixed_falls(web, 10, 89)
            for one, other in itertools.product(falls, repeat=2):
                alike = all(along(web, one, ring) == along(web, other, ring) for ring in rings)
                self.assertEqual(alike, kin(web, one, other)[0] == "turns", (web, one, other))

    def test_a_list_of_the_askers_own(self):
        mark(TRIANGLE, (1, 1, 1)).append(9)
        self.assertEqual(mark(TRIANGLE, (1, 1, 1)), [2])
        mark(BARE, ()).append(9)
        self.assertEqual(mark(BARE, ()), [])


class Kin(unittest.TestCase):
    def test_examples(self):
        self.assertEqual(kin(BARE, (), ()), ("turns", []))
        self.assertEqual(kin(NINE_ALONE, (), ()), ("turns", []))
        self.assertEqual(kin(TWO, (1,), (0,)), ("turns", [0]))
        self.assertEqual(kin(TWO, (0,), (1,)), ("turns", [1]))
        self.assertEqual(sorted(kin(PATH, (1, 1, 1), (0, 0, 0))[1]), [0, 0, 0, 1, 1, 2])
        self.assertEqual(kin(TRIANGLE, (1, 1, 1), (0, 0, 1)), ("turns", [0]))
        self.assertEqual(kin(TRIANGLE, (1, 1, 1), (1, 0, 0)), ("turns", [0, 1]))
        word, ring = kin(TRIANGLE, (1, 1, 1), (0, 0, 0))
        self.assertEqual((word, sorted(ring)), ("ring", [0, 1, 2]))
        self.assertEqual(kin(THREE_PIECES, (1, 1, 0, 0), (1, 1, 1, 0)), ("turns", [4]))
        word, ring = kin(THREE_PIECES, (1, 1, 0, 0), (1, 1, 1, 1))
        self.assertEqual((word, sorted(ring)), ("ring", [0, 3, 5]))

    def check(self, web, one, other, far):
        told = kin(web, one, other)
        self.assertIs(told.__class__, tuple)
        self.assertEqual(len(told), 2)
        word, thing = told
        if far is not None:
            self.assertEqual(word, "turns", (web, one, other))
            self.assertIs(thing.__class__, list)
            self.assertTrue(slow_turns(web, one, other, thing), (web, one, other, thing))
            self.assertEqual(len(thing), far, (web, one, other, thing))
            for piece in pieces(web):
                self.assertTrue(any(place not in thing for place in piece), (web, one, other, thing))
        else:
            self.assertEqual(word, "ring", (web, one, other))
            self.assertIs(is_ring(web, thing), True)
            self.assertNotEqual(slow_along(web, one, thing), slow_along(web, other, thing), (web, one, other, thing))
        self.assertIs(kin_right(web, one, other, told), True, (web, one, other, told))

    def test_every_two_falls_of_every_small_web(self):
        for web in small_webs(4) + [FIVE_RING, THREE_PIECES]:
            falls = slow_falls(web)
            for one in falls:
                found = slow_kin(web, one)
                for other in falls:
                    self.check(web, one, other, found.get(other))

    def test_mixed_falls_and_all_their_kin(self):
        for web in MORE_WEBS + mixed_webs(60, 90):
            falls = mixed_falls(web, 3, 91)
            for one in falls:
                found = slow_kin(web, one)
                for other in falls + sorted(found)[::5]:
                    self.check(web, one, other, found.get(other))

    def test_the_farthest_kin(self):
        # In a row of nine places, all ties being turned, the last place stays: 36 turns are needed.
        ties = tuple((place, place + 1) for place in range(8))
        told = kin((9, ties), (1,) * 8, (0,) * 8)
        self.assertEqual(len(told[1]), 36)
        self.assertTrue(slow_turns((9, ties), (1,) * 8, (0,) * 8, told[1]))

    def test_from_a_fall_to_itself_none_is_turned(self):
        for web in MORE_WEBS + mixed_webs(30, 92):
            for fall in mixed_falls(web, 3, 93):
                self.assertEqual(kin(web, fall, fall), ("turns", []))

    def test_lists_of_the_askers_own_and_nothing_changed(self):
        for web in [TWO, PATH, SQUARE, WHEEL, NINE_RING] + mixed_webs(10, 94):
            one = mixed_falls(web, 1, 95)[0]
            other = far_kin(web, one, numbers_from(96), 11)[0]
            kept = copy.deepcopy((web, one, other))
            told = kin(web, one, other)
            again = copy.deepcopy(told)
            told[1].append(7)
            told[1].insert(0, None)
            self.assertEqual(kin(web, one, other), again)
            self.assertEqual((web, one, other), kept)
        kin(BARE, (), ())[1].append(3)
        self.assertEqual(kin(BARE, (), ()), ("turns", []))


class KinRightOfTurns(unittest.TestCase):
    def compare(self, web, one, other, row):
        wanted = slow_turns(web, one, other, row)
        kept = list(row)
        self.assertIs(kin_right(web, one, other, ("turns", row)), wanted, (web, one, other, row))
        self.assertIs(kin_right(web, one, other, ("turns", tuple(row))), wanted, (web, one, other, row))
        self.assertEqual(row, kept)
        return wanted

    def test_all_short_rows_of_small_webs(self):
        for web in [BARE, (2, ()), TWO, (3, ((0, 2),)), (3, ((0, 1), (1, 2))), TRIANGLE]:
            numbers = range(-1, web[0] + 1)
            rows = [list(row) for count in range(5) for row in itertools.product(numbers, repeat=count)]
            for one, other in itertools.product(slow_falls(web), repeat=2):
                for row in rows:
                    self.compare(web, one, other, row)

    def test_no_shorter_row_than_told_ones(self):
        for web in [PATH, SQUARE, (4, ((0, 1), (0, 2), (1, 2), (2, 3))), (4, ((0, 1), (2, 3)))]:
            for one, other in itertools.product(slow_falls(web), repeat=2):
                word, row = kin(web, one, other)
                if word == "turns" and len(row) <= 4:
                    for count in range(len(row)):
                        for less in itertools.product(range(4), repeat=count):
                            self.assertIs(kin_right(web, one, other, ("turns", list(less))), False)

    def changed_rows(self, web, row):
        """Rows with a number changed, left out, put in, two exchanged."""
        numbers = list(range(web[0])) + ODD_NUMBERS
        found = []
        for at in range(len(row)):
            found.append(row[:at] + row[at + 1:])
            found.extend(row[:at] + [number] + row[at + 1:] for number in numbers)
            for to in range(at + 1, len(row)):
                found.append(row[:at] + [row[to]] + row[at + 1:to] + [row[at]] + row[to + 1:])
        for at in range(len(row) + 1):
            found.extend(row[:at] + [number] + row[at:] for number in numbers)
        return found

    def test_told_rows_and_changed_ones(self):
        answers = []
        webs = [BARE, TWO, PATH, SQUARE, THREE_PIECES, WHEEL, NINE_ALONE, NINE_ROW, TWENTY_MIXED] + mixed_webs(8, 97)
        for web in webs:
            one = mixed_falls(web, 1, 98)[0]
            other = far_kin(web, one, numbers_from(99), 13)[0]
            word, row = kin(web, one, other)
            self.assertIs(self.compare(web, one, other, row), True)
            answers.extend(self.compare(web, one, other, changed) for changed in self.changed_rows(web, row))
        # Places that are not tied may be exchanged, others may not; a place without ties may be put in.
        self.assertGreater(answers.count(True), 20)
        self.assertGreater(answers.count(False), 20)

    def test_longer_rows_that_go_round_needlessly(self):
        row = numbers_from(100)
        for web in MORE_WEBS + mixed_webs(20, 101):
            one = mixed_falls(web, 1, 102)[0]
            for turns in (1, 5, 30, 100):
                other, gone = far_kin(web, one, row, turns)
                self.assertIs(self.compare(web, one, other, gone), True)
                self.compare(web, other, one, gone)
                self.compare(web, one, other, gone[:-1])
                for number in ODD_NUMBERS:
                    at = next(row) % turns
                    self.assertIs(self.compare(web, one, other, gone[:at] + [number] + gone[at + 1:]), False)
        # All places in turn come back to the same fall.
        for turns in (4, 8, 40, 100):
            self.assertIs(self.compare(PATH, (1, 1, 1), (1, 1, 1), ([0, 1, 2, 3] * 25)[:turns]), True)

    def test_the_empty_row(self):
        for web in small_webs(3) + [SQUARE]:
            for one, other in itertools.product(slow_falls(web), repeat=2):
                self.assertIs(kin_right(web, one, other, ("turns", [])), one == other)
                self.assertIs(kin_right(web, one, other, ("turns", ())), one == other)

    def test_numbers_below_0_are_no_places(self):
        self.assertIs(kin_right(TWO, (1,), (0,), ("turns", [0])), True)
        self.assertIs(kin_right(TWO, (1,), (0,), ("turns", [-2])), False)
        self.assertIs(kin_right(TWO, (0,), (1,), ("turns", [-1])), False)
        self.assertIs(kin_right(BARE, (), (), ("turns", [0, 0, 0])), True)
        for number in ODD_NUMBERS + [1]:
            self.assertIs(kin_right(BARE, (), (), ("turns", [number])), False)
        for number in ODD_NUMBERS:
            self.assertIs(kin_right(NINE_ALONE, (), (), ("turns", [3, number])), False)

    def test_truths_and_rows_of_other_kinds(self):
        self.assertIs(kin_right(TWO, (1,), (0,), ("turns", [False])), False)
        self.assertIs(kin_right(TWO, (0,), (1,), ("turns", [True])), False)
        self.assertIs(kin_right(TWO, (0,), (1,), ("turns", ["1"])), False)
        for thing in (None, "", "1", 1, {}, {1: 1}):
            self.assertIs(kin_right(TWO, (1,), (1,), ("turns", thing)), False)


class KinRightOfRings(unittest.TestCase):
    def compare(self, web, one, other, rings, row):
        wanted = row in rings and slow_along(web, one, row) != slow_along(web, other, row)
        self.assertIs(kin_right(web, one, other, ("ring", row)), wanted, (web, one, other, row))
        return wanted

    def test_all_tuples_of_small_webs(self):
        answers = []
        for web in [TWO, TRIANGLE, SQUARE, (4, ((0, 1), (0, 2), (1, 2), (2, 3)))]:
            numbers = range(-1, web[0] + 1)
            rows = [row for count in range(5) for row in itertools.product(numbers, repeat=count)]
            rings = all_turned_rings(web)
            for one, other in itertools.product(slow_falls(web)[:4], slow_falls(web)[-4:]):
                answers.extend(self.compare(web, one, other, rings, row) for row in rows)
        self.assertGreater(answers.count(True), 20)

    def test_every_ring_from_any_place_on_and_either_way_about(self):
        answers = []
        for web in [FIVE_RING, WHEEL, SPINDLE, THREE_PIECES, TWO_RINGS] + mixed_webs(20, 103):
            one, other = mixed_falls(web, 2, 104)
            rings = [row for ring in slow_rings(web)[:40] for row in turned_rings(ring)]
            answers.extend(self.compare(web, one, other, rings, row) for row in rings)
        self.assertGreater(min(answers.count(True), answers.count(False)), 20)

    def test_told_rings_changed(self):
        for web in [TRIANGLE, FIVE_RING, WHEEL, SPINDLE, THREE_PIECES, TWENTY, TWENTY_MIXED] + mixed_webs(10, 105):
            one, other = mixed_falls(web, 2, 106)
            word, ring = kin(web, one, other)
            if word == "turns":
                continue
            rings = all_turned_rings(web)
            rows = [ring[:at] + ring[at + 1:] for at in range(len(ring))]
            for number in list(range(web[0])) + ODD_NUMBERS:
                rows.extend(ring[:at] + (number,) + ring[at + 1:] for at in range(len(ring)))
                rows.extend(ring[:at] + (number,) + ring[at:] for at in range(len(ring)))
            for row in rows + [ring + ring, ring + ring[:1], ()]:
                self.compare(web, one, other, rings, row)

    def test_kin_are_parted_by_no_ring(self):
        for web in [TRIANGLE, SQUARE, FIVE_RING, WHEEL, SPINDLE, TWO_RINGS]:
            one = mixed_falls(web, 1, 107)[0]
            for other in sorted(slow_kin(web, one)):
                for ring in slow_rings(web):
                    self.assertIs(kin_right(web, one, other, ("ring", ring)), False)

    def test_other_forms(self):
        one, other = (1, 1, 1), (0, 0, 0)
        self.assertIs(kin_right(TRIANGLE, one, other, ("ring", (0, 1, 2))), True)
        for told in [
            ("ring", [0, 1, 2]), ["ring", (0, 1, 2)], ("ring", (0, True, 2)), ("ring", (False, 1, 2)), ("ring", None),
            ("ring",), ("ring", (0, 1, 2), 0), ("rings", (0, 1, 2)), ("turns", (0, 1, 2)), (), None, "ring",
            ((0, 1, 2),), ("ring", "012"), ("ring", ("0", "1", "2")), ("ring", ()), ("ring", (0,)), ("ring", (0, 1)),
        ]:
            self.assertIs(kin_right(TRIANGLE, one, other, told), False, told)


class JustOne(unittest.TestCase):
    def test_never_both(self):
        for web in small_webs(3) + [SQUARE, (4, ((0, 1), (0, 2), (1, 2), (2, 3))), FIVE_RING]:
            rings = slow_rings(web)
            for one, other in itertools.product(slow_falls(web), repeat=2):
                parted = any(kin_right(web, one, other, ("ring", ring)) for ring in rings)
                self.assertEqual(parted, other not in slow_kin(web, one), (web, one, other))
                self.assertEqual(kin(web, one, other)[0], "ring" if parted else "turns")


if __name__ == "__main__":
    unittest.main()
