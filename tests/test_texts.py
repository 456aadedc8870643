"""[0.2], [0.3] and stage 11: texts of webs and of pointings, written and read."""

import copy
import itertools
import unittest

from rillturn.errors import NoText
from rillturn.texts import pointing_text, read_pointing, read_web, web_text
from rillturn.webs import is_web
from tests.samples import (
    ALL_NINE_PAIRS, BARE, NAMED_WEBS, NINE_ALONE, NINE_RING, OTHER_KINDS, SQUARE, TRIANGLE, TWENTY, TWENTY_MIXED,
    all_pointings, mixed_falls, mixed_pointings, mixed_webs, small_webs, text_of,
)

SIGNS = [chr(number) for number in range(32, 127) if chr(number) != "%"] + ["\n"]


class Written(unittest.TestCase):
    def test_examples(self):
        self.assertEqual(web_text(BARE), "1")
        self.assertEqual(web_text(NINE_ALONE), "9")
        self.assertEqual(web_text((4, ((0, 1), (1, 2)))), "4 0-1 1-2")
        self.assertEqual(web_text(TRIANGLE), "3 0-1 0-2 1-2")
        self.assertEqual(pointing_text((4, ((0, 1), (1, 2))), (0, 1)), "4 1>0 1>2")
        self.assertEqual(pointing_text(BARE, ()), "1")
        self.assertEqual(pointing_text(TRIANGLE, (1, 0, 1)), "3 0>1 2>0 1>2")
        self.assertEqual(pointing_text(SQUARE, (0, 0, 0, 0)), "4 1>0 3>0 2>1 3>2")
        self.assertEqual(len(web_text(TWENTY)), 81)


class ThereAndBack(unittest.TestCase):
    def check(self, web, pointings):
        self.assertEqual(web_text(web), text_of(web))
        self.assertEqual(read_web(web_text(web)), web)
        self.assertTrue(is_web(read_web(web_text(web))))
        for pointing in pointings:
            text = pointing_text(web, pointing)
            self.assertEqual(text, text_of(web, pointing))
            told = read_pointing(text)
            self.assertEqual(told, (web, pointing))
            self.assertIs(told.__class__, tuple)
            self.assertIs(told[1].__class__, tuple)
            self.assertTrue(all(number.__class__ is int for number in told[1]))

    def test_every_pointing_of_every_small_web(self):
        for web in small_webs(4):
            self.check(web, all_pointings(web))

    def test_mixed_webs(self):
        for web in NAMED_WEBS + mixed_webs(100, 191):
            self.check(web, mixed_pointings(web, 5, 192) + mixed_falls(web, 5, 193))


class NoTexts(unittest.TestCase):
    def refused(self, thing):
        for asked in (read_web, read_pointing):
            with self.assertRaises(NoText, msg=repr(thing)) as caught:
                asked(thing)
            self.assertIs(caught.exception.__class__, NoText)

    def test_things_of_other_kinds(self):
        texts = ["", "a", "0-1", "012"]
        for thing in [thing for thing in OTHER_KINDS if not isinstance(thing, str)] + texts:
            kept = copy.deepcopy(thing)
            self.refused(thing)
            self.assertEqual(thing, kept)
        for thing in [["1"], ("1",), {"1": 1}, {1: "1"}, 4, (4, ((0, 1),)), True, None, b"1", b"4 0-1"]:
            self.refused(thing)

    def test_blanks(self):
        for text in ["4 0-1 1-2", "4 1>0 1>2", "1", "9"]:
            self.refused(" " + text)
            self.refused(text + " ")
            self.refused(text + "  ")
            if " " in text:
                self.refused(text.replace(" ", "  "))
                self.refused(text.replace(" ", ""))
                self.refused(text.replace(" ", "\n"))
                self.refused(text.replace(" ", ","))
        for text in [" ", "  ", "", "4 0 -1", "4 0- 1", "4 0 > 1", "4 0> 1"]:
            self.refused(text)

    def test_line_ends(self):
        for text in ["4 0-1 1-2", "4 1>0 1>2", "1", "9", ""]:
            for other in [text + "\n", "\n" + text, text + "\n\n", text + "\r", text + "\r\n", "\r\n" + text]:
                self.refused(other)

    def test_zeros_and_signs_ahead(self):
        for text in [
            "04", "00", "01", "0", "+4", "-4", "4.", "4 00-1", "4 0-01", "4 00>1", "4 0>01", "4 +0-1", "4 0--1", "4 -0-1",
            "4 0-+1", "4 0>-1", "4 -1>0", "4 0-1-2", "4 0>1>2", "04 0-1", "04 0>1", "4_0", "4 0-1_0",
        ]:
            self.refused(text)

    def test_numbers_beyond(self):
        for text in [
            "0", "10", "11", "99", "100", "1000000000000000000", "3 0-3", "3 0>3", "3 3>0", "1 0-1", "1 0>1", "9 0-9", "9 0>9",
            "9 9>0", "3 1-9", "9 0-10", "9 0>10", "9 10>0", "0 0-1", "0 0>1", "10 0-1", "10 0>1",
        ]:
            self.refused(text)

    def test_unsorted_twice_and_of_one_place(self):
        for text in [
            "4 1-2 0-1", "4 1>2 0>1", "4 0-2 0-1", "4 2>0 0>1", "4 0-1 0-1", "4 0>1 0>1", "4 0>1 1>0", "4 1>0 0>1",
            "4 1-0", "4 3-2", "4 0-0", "4 0>0", "4 3-3", "4 3>3", "4 0-1 1-0", "4 0-1 1-2 0-3", "4 0>1 1>2 0>3",
        ]:
            self.refused(text)

    def test_too_many(self):
        for count in (21, 22, 25):
            web = (9, ALL_NINE_PAIRS[:count])
            self.refused(text_of(web))
            self.refused(text_of(web, (1,) * count))
        self.assertEqual(read_web(text_of(TWENTY)), TWENTY)
        self.assertEqual(read_pointing(text_of(TWENTY, (0,) * 20)), (TWENTY, (0,) * 20))

    def test_arrows_for_ties_and_ties_for_arrows(self):
        for web in [SQUARE, TRIANGLE, NINE_RING, TWENTY_MIXED]:
            pointing = (1, 0) * 10
            with self.assertRaises(NoText):
                read_pointing(text_of(web))
            with self.assertRaises(NoText):
                read_web(text_of(web, pointing))
            mixed = text_of(web).replace("-", ">", 1)
            self.refused(mixed)
        # Without ties both texts are the same.
        self.assertEqual(read_web("7"), (7, ()))
        self.assertEqual(read_pointing("7"), ((7, ()), ()))

    def test_other_words(self):
        for text in [
            "a", "4 a-b", "4 0", "4 01", "4 0-", "4 -1", "4 >1", "4 0>", "4 -", "4 >", "4 0=1", "4 0<1", "4 0:1", "4 0/1", "x4",
            "4x", "4 0-1x", "4 x0-1", "take 4", "four", "-", "4,0-1", "4 0-1,1-2", "(4, ())", "4;", "4 0-1;", "IV",
        ]:
            self.refused(text)

    def test_figures_of_other_scripts(self):
        for text in ["\u0664", "\u00b2", "4 \u0660-1", "4 0-\u00b9", "\uff14", "4\u00a00-1"]:
            self.refused(text)

    def told(self, asked, text):
        try:
            return asked(text)
        except NoText:
            return None

    def test_read_is_just_what_is_so_written(self):
        webs = {text_of(web): web for web in small_webs(3)}
        pointings = {text_of(web, one): (web, one) for web in small_webs(3) for one in all_pointings(web)}
        for count in range(6):
            for signs in itertools.product(" 0123->", repeat=count):
                text = "".join(signs)
                self.assertEqual(self.told(read_web, text), webs.get(text), text)
                self.assertEqual(self.told(read_pointing, text), pointings.get(text), text)
        for signs in itertools.product("012", repeat=4):
            text = "3 %s-%s %s-%s" % signs
            self.assertEqual(self.told(read_web, text), webs.get(text), text)
            text = text.replace("-", ">")
            self.assertEqual(self.told(read_pointing, text), pointings.get(text), text)

    def test_one_sign_changed_left_out_or_put_in(self):
        for web in [BARE, SQUARE, NINE_RING, TWENTY_MIXED]:
            pointing = mixed_pointings(web, 1, 194)[0]
            for text in {text_of(web), text_of(web, pointing)}:
                others = {text[:at] + text[at + 1:] for at in range(len(text))}
                for sign in SIGNS:
                    others |= {text[:at] + sign + text[at + 1:] for at in range(len(text))}
                    others |= {text[:at] + sign + text[at:] for at in range(len(text) + 1)}
                for other in sorted(others):
                    found = self.told(read_web, other)
                    self.assertTrue(found is None or (is_web(found) and text_of(found) == other), other)
                    found = self.told(read_pointing, other)
                    self.assertTrue(found is None or (is_web(found[0]) and text_of(*found) == other), other)


if __name__ == "__main__":
    unittest.main()
