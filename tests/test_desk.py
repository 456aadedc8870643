"""[0.2] to [0.4] and stage 12: a desk, its deeds, questions and refusals."""

import copy
import itertools
import unittest

from rillturn import errors
from rillturn.counts import falls_many, hueings, kins_many
from rillturn.desk import Desk
from rillturn.errors import (
    Apart, NoFall, NoMouth, NoPast, NoPlace, NoRow, NoSpring, NoText, NoTie, SamePlace, There, TooMany,
)
from rillturn.fewest import fewest
from rillturn.poles import poled
from tests.samples import (
    BARE, FIVE_RING, JUST_MANY_KINS, NAMED_WEBS, NINE_ALONE, NINE_RING, OTHER_KINDS, PATH, SIX, SQUARE, THREE_PIECES,
    TRIANGLE, TWENTY, TWENTY_MIXED, TWO, TWO_RINGS, WHEEL, as_pair, flipped, is_fall, is_whole_web, leads, mixed_falls,
    mixed_webs, mixed_whole_webs, numbers_from, slow_fall_count, slow_falls, slow_height, slow_hueings, slow_kin_count,
    slow_mouths, slow_springs, slow_turned, slow_worth, small_webs, text_of,
)
from tests.test_kin import slow_mark

WORDS_ALONE = "back show springs mouths heights mark steps free worth short fewest round falls kins".split()
WORDS_OF_ONE = "spring mouth seat hues".split()
WORDS_OF_TWO = "tie untie turn poles".split()
QUESTIONS = "show springs mouths heights mark steps free worth short fewest".split()


def desk_of(web, fall):
    desk = Desk()
    desk.say("take " + text_of(web, fall))
    return desk


def numbers_text(numbers):
    return " ".join("%d" % number for number in numbers) or "-"


def slow_free(web, fall):
    pairs = [(a, b) if number else (b, a) for (a, b), number in zip(web[1], fall)]
    free = [pair for k, pair in enumerate(pairs) if is_fall(web, flipped(fall, k))]
    return " ".join("%d>%d" % pair for pair in free) or "-"


def slow_answers(web, fall):
    """The answers to questions that are always told."""
    heights = [slow_height(web, fall, place) for place in range(web[0])]
    worth = slow_worth(web, fall)
    return {
        "show": text_of(web, fall), "springs": numbers_text(slow_springs(web, fall)),
        "mouths": numbers_text(slow_mouths(web, fall)), "heights": numbers_text(heights),
        "mark": numbers_text(slow_mark(web, fall)), "steps": "%d" % max(heights), "free": slow_free(web, fall),
        "worth": "%d/%d" % as_pair(worth), "short": "%d" % (-(-worth.numerator // worth.denominator) - 1),
        "fewest": "%d" % fewest(web)[0],
    }


class DeskCase(unittest.TestCase):
    def refused(self, desk, row, error):
        shown = desk.say("show")
        kept = copy.deepcopy(row)
        with self.assertRaises(errors.RillError, msg=repr(row)) as caught:
            desk.say(row)
        self.assertIs(caught.exception.__class__, error, repr(row))
        self.assertEqual(desk.say("show"), shown, repr(row))
        self.assertEqual(row, kept)

    def said(self, desk, row, answer):
        told = desk.say(row)
        self.assertIs(told.__class__, str)
        self.assertEqual(told, answer, row)


class Questions(DeskCase):
    def test_a_new_desk(self):
        desk = Desk()
        for row, answer in [
            ("show", "1"), ("springs", "0"), ("mouths", "0"), ("heights", "0"), ("mark", "-"), ("steps", "0"), ("free", "-"),
            ("worth", "1/1"), ("short", "0"), ("fewest", "1"), ("round", "1/1"), ("falls", "1"), ("kins", "1"),
            ("hues 0", "0"), ("hues 1", "1"), ("hues 7", "7"), ("hues 999", "999"),
        ]:
            self.said(desk, row, answer)
        self.refused(desk, "poles 0 0", SamePlace)
        self.refused(desk, "back", NoPast)

    def test_letter_by_letter(self):
        desk = Desk()
        self.said(desk, "take 4 0>1 0>3 2>1 2>3", "ok")
        for row, answer in [
            ("show", "4 0>1 0>3 2>1 2>3"), ("springs", "0 2"), ("mouths", "1 3"), ("heights", "0 1 0 1"), ("mark", "2"),
            ("steps", "1"), ("free", "0>1 0>3 2>1 2>3"), ("worth", "2/1"), ("short", "1"), ("fewest", "2"),
            ("round", "2/1"), ("falls", "14"), ("kins", "3"), ("hues 2", "2"), ("hues 3", "18"), ("poles 0 1", "yes"),
            ("poles 1 3", "yes"), ("hues 100", "96059700"), ("hues 10", "6570"),
        ]:
            self.said(desk, row, answer)
        self.said(desk, "take 5 0>1 4>0 1>2 2>3 4>3", "ok")
        for row, answer in [
            ("show", "5 0>1 4>0 1>2 2>3 4>3"), ("springs", "4"), ("mouths", "3"), ("heights", "1 2 3 4 0"), ("mark", "4"),
            ("steps", "4"), ("free", "0>1 4>0 1>2 2>3"), ("worth", "5/1"), ("short", "4"), ("fewest", "3"),
            ("round", "5/2"), ("falls", "30"), ("kins", "4"), ("poles 0 2", "yes"),
        ]:
            self.said(desk, row, answer)
        self.said(desk, "take 3 0>1", "ok")
        for row, answer in [
            ("springs", "0 2"), ("mouths", "1 2"), ("heights", "0 1 0"), ("mark", "-"), ("free", "0>1"), ("worth", "2/1"),
            ("falls", "2"), ("hues 3", "18"),
        ]:
            self.said(desk, row, answer)
        self.said(desk, "take 3 0>1 1>2", "ok")
        self.said(desk, "poles 0 2", "yes")
        self.said(desk, "poles 0 1", "no")
        self.said(desk, "poles 1 0", "no")

    def test_against_slow_answers(self):
        pairs = [(web, fall) for web in small_webs(3) + [SQUARE, PATH] for fall in slow_falls(web)]
        pairs += [(web, fall) for web in NAMED_WEBS + mixed_webs(40, 201) for fall in mixed_falls(web, 2, 202)]
        for web, fall in pairs:
            desk = desk_of(web, fall)
            for row, answer in slow_answers(web, fall).items():
                self.said(desk, row, answer)

    def test_counts(self):
        for web in small_webs(4) + [web for web in NAMED_WEBS + mixed_webs(30, 203) if len(web[1]) <= 14]:
            desk = desk_of(web, mixed_falls(web, 1, 204)[0])
            self.said(desk, "falls", "%d" % slow_fall_count(web))
            for k in (0, 1, 2, 3, 10, 99, 100, 999):
                self.said(desk, "hues %d" % k, "%d" % slow_hueings(web, k))
            if is_whole_web(web):
                self.said(desk, "kins", "%d" % slow_kin_count(web))
            else:
                self.refused(desk, "kins", Apart)

    def test_round(self):
        told = 0
        for web in small_webs(4) + NAMED_WEBS + [SIX, JUST_MANY_KINS, TWO_RINGS] + mixed_webs(30, 205):
            desk = desk_of(web, mixed_falls(web, 1, 206)[0])
            if not is_whole_web(web):
                self.refused(desk, "round", Apart)
            elif slow_kin_count(web) > 120:
                self.refused(desk, "round", TooMany)
            elif len(web[1]) <= 6:
                self.said(desk, "round", "%d/%d" % as_pair(min(slow_worth(web, fall) for fall in slow_falls(web))))
                told += 1
        self.assertGreater(told, 20)
        self.said(desk_of(SIX, (1,) * 15), "round", "6/1")
        self.said(desk_of(NINE_RING, (1,) * 9), "round", "9/4")

    def test_poles(self):
        for web in small_webs(4) + mixed_whole_webs(20, 207):
            desk = desk_of(web, mixed_falls(web, 1, 208)[0])
            for a, b in itertools.product(range(web[0]), repeat=2):
                row = "poles %d %d" % (a, b)
                if not is_whole_web(web):
                    self.refused(desk, row, Apart)
                elif a == b:
                    self.refused(desk, row, SamePlace)
                else:
                    self.said(desk, row, "yes" if poled(web, a, b)[0] == "order" else "no")

    def test_questions_are_no_deeds(self):
        desk = desk_of(SQUARE, (1, 1, 0, 1))
        for row in QUESTIONS + ["round", "falls", "kins", "hues 4", "poles 0 1"]:
            self.assertEqual(desk.say(row), desk.say(row))
        self.said(desk, "back", "ok")
        self.said(desk, "show", "1")
        self.refused(desk, "back", NoPast)


class Deeds(DeskCase):
    def test_letter_by_letter(self):
        desk = Desk()
        for row, shown in [
            ("take 4", "4"), ("tie 0 1", "4 0>1"), ("tie 2 1", "4 0>1 2>1"), ("tie 3 0", "4 0>1 3>0 2>1"),
            ("tie 3 2", "4 0>1 3>0 2>1 3>2"), ("turn 2 1", "4 0>1 3>0 1>2 3>2"), ("turn 1 2", "4 0>1 3>0 2>1 3>2"),
            ("spring 3", "4 0>1 0>3 2>1 2>3"), ("mouth 1", "4 1>0 0>3 1>2 2>3"),
            # 1 is turned, then 0.
            ("seat 2", "4 1>0 3>0 2>1 2>3"), ("untie 0 3", "4 1>0 2>1 2>3"), ("untie 2 1", "4 1>0 2>3"),
            ("back", "4 1>0 2>1 2>3"), ("take 2 1>0", "2 1>0"), ("untie 0 1", "2"),
        ]:
            self.said(desk, row, "ok")
            self.said(desk, "show", shown)

    def test_take(self):
        desk = Desk()
        for web in NAMED_WEBS + mixed_webs(20, 211):
            for fall in mixed_falls(web, 2, 212):
                self.said(desk, "take " + text_of(web, fall), "ok")
                self.said(desk, "show", text_of(web, fall))

    def test_a_tie_more(self):
        for web in small_webs(4)[::3] + mixed_webs(20, 213):
            fall = mixed_falls(web, 1, 214)[0]
            for a, b in itertools.product(range(web[0]), repeat=2):
                desk = desk_of(web, fall)
                row = "tie %d %d" % (a, b)
                pairs = leads(web, fall)
                if a == b:
                    self.refused(desk, row, SamePlace)
                elif (a, b) in pairs or (b, a) in pairs:
                    self.refused(desk, row, There)
                elif len(pairs) == 20:
                    self.refused(desk, row, TooMany)
                else:
                    self.kept_or_round(desk, row, web[0], pairs | {(a, b)})

    def kept_or_round(self, desk, row, many, pairs):
        """A row after which the arrows are these, or which is refused where they make a round."""
        ties = tuple(sorted((min(pair), max(pair)) for pair in pairs))
        pointing = tuple(1 if tie in pairs else 0 for tie in ties)
        if is_fall((many, ties), pointing):
            self.said(desk, row, "ok")
            self.said(desk, "show", text_of((many, ties), pointing))
        else:
            self.refused(desk, row, NoFall)

    def test_a_tie_less(self):
        for web in small_webs(4)[::3] + mixed_webs(20, 215):
            fall = mixed_falls(web, 1, 216)[0]
            for a, b in itertools.product(range(web[0]), repeat=2):
                desk = desk_of(web, fall)
                row = "untie %d %d" % (a, b)
                pairs = leads(web, fall)
                if (a, b) in pairs or (b, a) in pairs:
                    self.kept_or_round(desk, row, web[0], pairs - {(a, b), (b, a)})
                else:
                    self.refused(desk, row, NoTie)

    def test_a_tie_turned(self):
        for web in small_webs(4)[::3] + mixed_webs(20, 217):
            fall = mixed_falls(web, 1, 218)[0]
            for a, b in itertools.product(range(web[0]), repeat=2):
                desk = desk_of(web, fall)
                row = "turn %d %d" % (a, b)
                pairs = leads(web, fall)
                if (a, b) in pairs:
                    self.kept_or_round(desk, row, web[0], pairs - {(a, b)} | {(b, a)})
                else:
                    self.refused(desk, row, NoTie)

    def test_springs_mouths_and_seats(self):
        for web in small_webs(4)[::3] + mixed_webs(20, 219):
            fall = mixed_falls(web, 1, 220)[0]
            for place in range(web[0]):
                for word, ready, error in [
                    ("spring", slow_springs(web, fall), NoSpring), ("mouth", slow_mouths(web, fall), NoMouth),
                ]:
                    desk = desk_of(web, fall)
                    if place in ready:
                        self.said(desk, "%s %d" % (word, place), "ok")
                        self.said(desk, "show", text_of(web, slow_turned(web, fall, place)))
                    else:
                        self.refused(desk, "%s %d" % (word, place), error)
                self.check_seat(web, fall, place)

    def check_seat(self, web, fall, place):
        desk = desk_of(web, fall)
        if not is_whole_web(web):
            self.refused(desk, "seat %d" % place, Apart)
            return
        self.said(desk, "seat %d" % place, "ok")
        while slow_springs(web, fall) != (place,):
            fall = slow_turned(web, fall, [spring for spring in slow_springs(web, fall) if spring != place][0])
        self.said(desk, "show", text_of(web, fall))
        self.said(desk, "springs", "%d" % place)


class Back(DeskCase):
    def test_over_many_deeds(self):
        desk = Desk()
        shown = [desk.say("show")]
        rows = [
            "take 4 0>1 0>3 2>1 2>3", "tie 0 2", "turn 0 2", "spring 2", "mouth 2", "seat 1", "untie 0 1", "take 1", "take 2",
            "tie 1 0", "seat 0", "seat 0", "take 2 0>1", "take 2 0>1", "take 3", "spring 0", "mouth 2", "spring 1",
        ]
        for row in rows:
            self.said(desk, row, "ok")
            shown.append(desk.say("show"))
        while len(shown) > 1:
            self.said(desk, "show", shown.pop())
            self.said(desk, "back", "ok")
        self.said(desk, "show", "1")
        self.refused(desk, "back", NoPast)
        self.refused(desk, "back", NoPast)

    def test_deeds_that_change_nothing_stand_too(self):
        desk = Desk()
        for row in ["take 1", "spring 0", "mouth 0", "seat 0"]:
            self.said(desk, row, "ok")
            self.said(desk, "show", "1")
        for _ in range(4):
            self.said(desk, "back", "ok")
            self.said(desk, "show", "1")
        self.refused(desk, "back", NoPast)

    def test_deeds_behind_a_deed_taken_back(self):
        desk = Desk()
        for row, shown in [
            ("take 2", "2"), ("tie 0 1", "2 0>1"), ("back", "2"), ("tie 1 0", "2 1>0"), ("turn 1 0", "2 0>1"),
            ("back", "2 1>0"), ("back", "2"), ("back", "1"),
        ]:
            self.said(desk, row, "ok")
            self.said(desk, "show", shown)
        self.refused(desk, "back", NoPast)

    def test_what_is_refused_is_no_deed(self):
        desk = Desk()
        self.said(desk, "take 3 0>1 0>2 1>2", "ok")
        self.said(desk, "spring 0", "ok")
        for row, error in [
            ("spring 0", NoSpring), ("mouth 1", NoMouth), ("tie 0 1", There), ("tie 1 1", SamePlace), ("turn 0 1", NoTie),
            ("turn 1 0", NoFall), ("untie 2 2", NoTie), ("seat 3", NoPlace), ("take 3 0>1 2>0 1>2", NoFall),
            ("take 3 0-1", NoText), ("take", NoRow), ("nothing", NoRow), (None, NoRow), ("hues", NoRow),
        ]:
            self.refused(desk, row, error)
        self.said(desk, "back", "ok")
        self.said(desk, "show", "3 0>1 0>2 1>2")
        self.said(desk, "back", "ok")
        self.said(desk, "show", "1")
        self.refused(desk, "back", NoPast)

    def test_a_hundred_deeds(self):
        desk = Desk()
        desk.say("take 3 0>1 0>2 1>2")
        shown = []
        for turn in range(120):
            shown.append(desk.say("show"))
            self.said(desk, "spring %d" % (turn % 3), "ok")
        for turn in range(120):
            self.said(desk, "back", "ok")
            self.said(desk, "show", shown.pop())

    def test_two_desks_apart(self):
        one, other = Desk(), Desk()
        self.said(one, "take 2 0>1", "ok")
        self.said(other, "show", "1")
        self.refused(other, "back", NoPast)
        self.said(other, "take 3 2>1", "ok")
        self.said(one, "show", "2 0>1")
        self.said(one, "back", "ok")
        self.said(other, "show", "3 2>1")
        self.said(Desk(), "show", "1")


class Refusals(DeskCase):
    def desk(self):
        return desk_of(SQUARE, (1, 1, 0, 1))

    def test_rows_of_other_kinds(self):
        desk = self.desk()
        for thing in OTHER_KINDS + [["show"], ("show",), {"show": 1}, b"show", b"take 1", ["take", "1"], True, 0, None]:
            self.refused(desk, thing, NoRow)

    def test_words(self):
        desk = self.desk()
        for row in [
            "", " ", "Show", "SHOW", "show ", " show", "show\n", "\nshow", "show show", "shows", "sho", "show 0", "show  ",
            "take", "Take 1", " take 1", "takes 1", "take\n1", "take\t1", "tak 1", "untake 1", "tie0 1", "tie", "ties 0 1",
            "back back", "back 1", "back ", "again", "0", "-", "tie  0 1", "tie 0  1", "tie 0 1 ", " tie 0 1", "tie 0 1\n",
            "tie\n0 1", "tie 0,1", "tie 0-1", "tie 0>1", "hues K", "poles A B", "spring A", "do_tie 0 1", "keep", "web",
        ]:
            self.refused(desk, row, NoRow)

    def test_the_count_of_numbers(self):
        desk = self.desk()
        for words, right in [(WORDS_ALONE, 0), (WORDS_OF_ONE, 1), (WORDS_OF_TWO, 2)]:
            for word in words:
                for count in range(5):
                    if count != right:
                        self.refused(desk, " ".join([word] + ["0"] * count), NoRow)

    def test_numbers_that_are_not_so_written(self):
        desk = self.desk()
        wrong = [
            "01", "00", "000", "001", "010", "1000", "0000", "9999", "1000000000000000000", "-1", "+1", "-0", "1.", "1.0", "a",
            "", "1a", "a1", "1_0", "0x1", "1e1", "one", "\u0661", "\u00b2", "1\n", "\n1", "!", "10 ", "1-", ">",
        ]
        for number in wrong:
            for word in WORDS_OF_ONE:
                self.refused(desk, "%s %s" % (word, number), NoRow)
            for word in WORDS_OF_TWO:
                self.refused(desk, "%s %s 1" % (word, number), NoRow)
                self.refused(desk, "%s 1 %s" % (word, number), NoRow)

    def test_take_and_what_is_no_text(self):
        desk = self.desk()
        for text in [
            "", " ", " 1", "1 ", "0", "10", "01", "4 0-1", "4 0>4", "4 1>2 0>1", "4 0>1 0>1", "4 0>0", "a", "1\n", "\n1", "4  0>1",
            "4 0>1 ", "show", "take 1", "4 00>1", text_of((9, TWENTY[1] + ((7, 8),)), (1,) * 21),
        ]:
            self.refused(desk, "take " + text, NoText)

    def test_no_place(self):
        desk = self.desk()
        for number in ["4", "5", "9", "10", "100", "999"]:
            for word in ("spring", "mouth", "seat"):
                self.refused(desk, "%s %s" % (word, number), NoPlace)
            for word in WORDS_OF_TWO:
                self.refused(desk, "%s %s 1" % (word, number), NoPlace)
                self.refused(desk, "%s 1 %s" % (word, number), NoPlace)
                self.refused(desk, "%s %s %s" % (word, number, number), NoPlace)
            # K is no place, and any number.
            self.said(desk, "hues %s" % number, "%d" % slow_hueings(SQUARE, int(number)))

    def test_no_fall(self):
        desk = Desk()
        for text in ["3 0>1 2>0 1>2", "3 1>0 0>2 2>1", "4 0>1 3>0 1>2 2>3"]:
            self.refused(desk, "take " + text, NoFall)
        desk.say("take 3 0>1 1>2")
        self.refused(desk, "tie 2 0", NoFall)
        self.said(desk, "tie 0 2", "ok")
        self.refused(desk, "turn 0 2", NoFall)

    def test_the_first_one_of_several(self):
        apart = desk_of(THREE_PIECES, (1, 1, 0, 0))
        twenty = desk_of(TWENTY, (1,) * 20)
        many = desk_of(JUST_MANY_KINS, (1,) * 14)
        alone = desk_of(NINE_ALONE, ())
        for desk, row, error in [
            # A row by its words ahead of its places.
            (apart, "tie 9 01", NoRow), (apart, "poles 9 9 9", NoRow), (apart, "take", NoRow),
            # Its places ahead of all else.
            (apart, "poles 9 9", NoPlace), (apart, "tie 6 6", NoPlace), (apart, "untie 0 6", NoPlace),
            (apart, "seat 6", NoPlace), (apart, "spring 6", NoPlace), (twenty, "tie 0 9", NoPlace),
            # No text ahead of no fall.
            (apart, "take 3 0>1 2>0 1>2 ", NoText), (apart, "take 3 0>1 2>0 1>2 0>3", NoText),
            (twenty, "tie 3 3", SamePlace), (twenty, "tie 0 1", There), (twenty, "tie 1 0", There),
            (twenty, "tie 7 8", TooMany), (twenty, "tie 8 7", TooMany),
            (apart, "poles 0 0", Apart), (apart, "poles 0 1", Apart), (apart, "seat 0", Apart), (apart, "kins", Apart),
            (apart, "round", Apart), (alone, "round", Apart), (alone, "poles 8 8", Apart), (many, "round", TooMany),
            (many, "poles 3 3", SamePlace), (apart, "tie 3 0", There), (apart, "tie 2 2", SamePlace),
            (apart, "turn 3 0", NoTie), (apart, "turn 2 2", NoTie), (apart, "untie 2 2", NoTie),
        ]:
            self.refused(desk, row, error)

    def test_too_many_ahead_of_a_round(self):
        # 1 leads to 8 by 0: the tie from 8 to 1 would close a round, but 20 ties are there.
        web, order = TWENTY, (1, 0, 8, 2, 3, 4, 5, 6, 7)
        less = (9, tuple(tie for tie in web[1] if tie != (1, 8)) + ((7, 8),))
        fall = tuple(1 if order.index(a) < order.index(b) else 0 for a, b in less[1])
        self.assertEqual(len(less[1]), 20)
        desk = desk_of(less, fall)
        self.refused(desk, "tie 8 1", TooMany)
        self.said(desk, "untie 7 8", "ok")
        self.refused(desk, "tie 8 1", NoFall)
        self.said(desk, "tie 1 8", "ok")

    def test_apart_and_many_kins(self):
        web = (9, tuple(sorted(SIX[1] + ((0, 6), (1, 6), (7, 8)))))
        desk = desk_of(web, (1,) * 18)
        self.refused(desk, "round", Apart)
        self.refused(desk, "kins", Apart)
        self.refused(desk, "poles 1 1", Apart)


class Mixed(DeskCase):
    def row_of(self, row):
        """A row by chance: mostly one of those that are told, its numbers mostly places."""
        words = WORDS_OF_TWO * 4 + WORDS_OF_ONE * 3 + ["back"] * 2 + ["show", "free", "mark"]
        word = words[next(row) % len(words)]
        count = 2 if word in WORDS_OF_TWO else 1 if word in WORDS_OF_ONE else 0
        return " ".join([word] + ["%d" % (next(row) % 7) for _ in range(count)])

    def model(self, web, fall, row):
        """What a deed makes of a web and a fall, or the refusal; None for what is no deed."""
        word, *numbers = row.split(" ")
        numbers = [int(number) for number in numbers]
        if word in ("back", "show", "free", "mark", "hues", "poles"):
            return None
        if any(number >= web[0] for number in numbers):
            return NoPlace
        pairs = leads(web, fall)
        if word in ("spring", "mouth"):
            ready = slow_springs(web, fall) if word == "spring" else slow_mouths(web, fall)
            error = NoSpring if word == "spring" else NoMouth
            return (web, slow_turned(web, fall, numbers[0])) if numbers[0] in ready else error
        if word == "seat":
            if not is_whole_web(web):
                return Apart
            while slow_springs(web, fall) != (numbers[0],):
                others = [spring for spring in slow_springs(web, fall) if spring != numbers[0]]
                fall = slow_turned(web, fall, others[-1])
            return (web, fall)
        a, b = numbers
        there = (a, b) in pairs or (b, a) in pairs
        if word == "tie":
            if a == b or there:
                return SamePlace if a == b else There
            pairs = pairs | {(a, b)}
        elif word == "untie":
            if not there:
                return NoTie
            pairs = pairs - {(a, b), (b, a)}
        else:
            if (a, b) not in pairs:
                return NoTie
            pairs = pairs - {(a, b)} | {(b, a)}
        ties = tuple(sorted((min(pair), max(pair)) for pair in pairs))
        pointing = tuple(1 if tie in pairs else 0 for tie in ties)
        return ((web[0], ties), pointing) if is_fall((web[0], ties), pointing) else NoFall

    def test_many_rows(self):
        row = numbers_from(231)
        met = set()
        for _ in range(12):
            desk, past, at = Desk(), [], (BARE, ())
            start = (3 + next(row) % 4, ())
            self.said(desk, "take %d" % start[0], "ok")
            past, at = [at], (start, ())
            for _ in range(150):
                said = self.row_of(row)
                told = self.model(at[0], at[1], said)
                if said == "back":
                    if past:
                        self.said(desk, said, "ok")
                        at = past.pop()
                    else:
                        self.refused(desk, said, NoPast)
                elif isinstance(told, tuple):
                    self.said(desk, said, "ok")
                    past.append(at)
                    at = told
                elif told is not None:
                    self.refused(desk, said, told)
                    met.add(told)
                self.said(desk, "show", text_of(*at))
        self.assertEqual(met, {NoPlace, SamePlace, There, NoTie, NoFall, NoSpring, NoMouth, Apart})


class Agreeing(DeskCase):
    def test_the_desk_answers_as_the_functions_do(self):
        for web in [TWO, TRIANGLE, FIVE_RING, WHEEL, TWENTY_MIXED]:
            desk = desk_of(web, mixed_falls(web, 1, 232)[0])
            self.said(desk, "falls", "%d" % falls_many(web))
            self.said(desk, "kins", "%d" % kins_many(web))
            self.said(desk, "hues 12", "%d" % hueings(web, 12))


if __name__ == "__main__":
    unittest.main()
