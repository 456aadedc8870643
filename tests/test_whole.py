"""[0.1] to [0.4]: what the document promises over the whole program, at every function of its interface."""

import copy
import importlib
import inspect
import itertools
import unittest

from rillturn import errors
from rillturn.desk import Desk
from rillturn.fewest import fewest, fewest_right
from rillturn.heights import longest, longest_right
from rillturn.kin import kin, kin_right
from rillturn.pointings import is_round, looked, ordered
from rillturn.poles import poled, poled_right
from rillturn.roundhues import least_right, least_worth
from rillturn.seats import seated
from rillturn.turning import all_falls, road, road_right
from rillturn.webs import is_ring
from rillturn.worths import shortest, worth, worth_right
from tests.samples import (
    BARE, FIVE_RING, NINE_ALONE, NINE_RING, OTHER_KINDS, PATH, SPINDLE, SQUARE, THREE_PIECES, TRIANGLE, TWENTY,
    TWENTY_MIXED, TWO, TWO_RINGS, WHEEL, all_pointings, is_fall, is_whole_web, mixed_falls, mixed_webs, slow_falls,
    slow_rings, small_webs,
)

INTERFACE = {
    "webs": {
        "is_whole": "thing", "is_web": "thing", "near": "web place", "pieces": "web", "is_ring": "web thing",
        "drawn": "web a b", "tied": "web a b", "untied": "web a b",
    },
    "pointings": {
        "is_pointing": "web thing", "is_round": "web pointing thing", "looked": "web pointing", "ordered": "web order",
    },
    "heights": {"longest": "web fall", "longest_right": "web fall steps way heights"},
    "hues": {"is_hues": "web thing", "hued": "web hues", "laid": "web order"},
    "fewest": {"fewest": "web", "fewest_right": "web k hues paper"},
    "turning": {
        "turned": "web pointing k", "free_ties": "web fall", "road": "web one other", "road_right": "web one other row",
        "all_falls": "web",
    },
    "springs": {
        "springs": "web fall", "mouths": "web fall", "turn_spring": "web fall place", "turn_mouth": "web fall place",
    },
    "kin": {
        "along": "web pointing ring", "mark": "web pointing", "kin": "web one other", "kin_right": "web one other told",
    },
    "seats": {"seat": "web fall place", "seated": "web place"},
    "worths": {"worth": "web fall", "worth_right": "web fall worth ring numbers", "shortest": "web fall"},
    "roundhues": {
        "is_round_hues": "web top bottom thing", "least_worth": "web", "least_right": "web worth hues paper",
    },
    "counts": {
        "hue_row": "web", "hueings": "web k", "falls_many": "web", "kins_many": "web", "poled_many": "web",
        "pairs_many": "web k",
    },
    "poles": {"poled": "web s t", "poled_right": "web s t told", "all_poled": "web s t"},
    "texts": {"web_text": "web", "pointing_text": "web pointing", "read_web": "thing", "read_pointing": "thing"},
}


def function(module, name):
    return getattr(importlib.import_module("rillturn." + module), name)


def asked(web, fall, other):
    """Questions to every function, all arguments being of one web; lists where lists are told."""
    order = tuple(range(web[0]))[::-1]
    ring = (slow_rings(web) or ((0, 1, 2),))[0]
    steps, way, heights = longest(web, fall)
    rows = [
        ("is_whole", "webs", (web,)), ("is_web", "webs", (web,)), ("near", "webs", (web, 0)), ("pieces", "webs", (web,)),
        ("is_ring", "webs", (web, ring)), ("is_pointing", "pointings", (web, fall)),
        ("is_round", "pointings", (web, fall, ring)), ("looked", "pointings", (web, fall)),
        ("ordered", "pointings", (web, order)), ("longest", "heights", (web, fall)),
        ("longest_right", "heights", (web, fall, steps, way, heights)), ("is_hues", "hues", (web, heights)),
        ("hued", "hues", (web, heights)), ("laid", "hues", (web, order)), ("fewest", "fewest", (web,)),
        ("fewest_right", "fewest", (web,) + fewest(web)), ("free_ties", "turning", (web, fall)),
        ("road", "turning", (web, fall, other)), ("all_falls", "turning", (web,)),
        ("road_right", "turning", (web, fall, other, road(web, fall, other))), ("springs", "springs", (web, fall)),
        ("mouths", "springs", (web, fall)), ("mark", "kin", (web, fall)), ("kin", "kin", (web, fall, other)),
        ("kin_right", "kin", (web, fall, other, kin(web, fall, other))), ("seat", "seats", (web, fall, 0)),
        ("seated", "seats", (web, 0)), ("worth", "worths", (web, fall)),
        ("worth_right", "worths", (web, fall) + worth(web, fall)), ("shortest", "worths", (web, fall)),
        ("is_round_hues", "roundhues", (web, 9, 1, heights)), ("least_worth", "roundhues", (web,)),
        ("least_right", "roundhues", (web, (3, 1), heights, [(fall, ring), (other, None)])),
        ("hue_row", "counts", (web,)), ("hueings", "counts", (web, 5)), ("falls_many", "counts", (web,)),
        ("kins_many", "counts", (web,)), ("poled_many", "counts", (web,)), ("pairs_many", "counts", (web, 5)),
        ("poled", "poles", (web, 0, web[0] - 1)), ("all_poled", "poles", (web, 0, web[0] - 1)),
        ("poled_right", "poles", (web, 0, web[0] - 1, ("order", order))), ("web_text", "texts", (web,)),
        ("pointing_text", "texts", (web, fall)), ("read_web", "texts", ("4 0-1 1-2",)),
        ("read_pointing", "texts", ("4 1>0 1>2",)), ("read_web", "texts", (["no", ["text"]],)),
        ("turn_spring", "springs", (web, fall, 0)), ("turn_mouth", "springs", (web, fall, 0)),
    ]
    if web[0] > 1:
        rows += [("drawn", "webs", (web, 0, 1)), ("tied", "webs", (web, 1, 0)), ("untied", "webs", (web, 1, 0))]
    if web[1]:
        rows += [("turned", "turning", (web, fall, 0))]
    if slow_rings(web):
        rows += [("along", "kin", (web, fall, ring))]
    return rows


def answer(module, name, arguments):
    """What is told, or the refusal's class."""
    try:
        return function(module, name)(*arguments)
    except errors.RillError as caught:
        return caught.__class__


def spoil(thing):
    """Changes every list in a thing, at any depth."""
    if isinstance(thing, (list, tuple)):
        for part in thing:
            spoil(part)
    if isinstance(thing, list):
        thing.append("spoilt")
        thing[0] = "spoilt"


def parts(thing):
    """A thing and all that is in it."""
    found = [thing]
    if isinstance(thing, (list, tuple)):
        for part in thing:
            found.extend(parts(part))
    return found


def some():
    pairs = []
    for web in [BARE, TWO, PATH, TRIANGLE, SQUARE, FIVE_RING, THREE_PIECES, NINE_ALONE, NINE_RING, WHEEL, SPINDLE,
                TWO_RINGS, TWENTY, TWENTY_MIXED] + mixed_webs(12, 241):
        pairs.append((web,) + tuple(mixed_falls(web, 2, 242)))
    return pairs


class Interface(unittest.TestCase):
    def test_names_and_arguments(self):
        for module, functions in INTERFACE.items():
            for name, arguments in functions.items():
                told = inspect.getfullargspec(function(module, name))
                self.assertEqual(told.args, arguments.split(), (module, name))
                self.assertEqual((told.varargs, told.varkw, told.defaults, told.kwonlyargs), (None, None, None, []))
        self.assertEqual(inspect.getfullargspec(Desk.say).args, ["self", "row"])
        self.assertEqual(inspect.getfullargspec(Desk.__init__).args, ["self"])

    def test_every_function_is_asked_here(self):
        names = {(module, name) for web, fall, other in some() for name, module, arguments in asked(web, fall, other)}
        wanted = {(module, name) for module, functions in INTERFACE.items() for name in functions}
        self.assertEqual(wanted, names)


class EveryFunction(unittest.TestCase):
    def test_nothing_handed_in_is_changed_and_the_same_answer_comes_again(self):
        for web, fall, other in some():
            for name, module, arguments in asked(web, fall, other):
                kept = copy.deepcopy(arguments)
                told = answer(module, name, arguments)
                self.assertEqual(arguments, kept, name)
                self.assertEqual(answer(module, name, arguments), told, name)
                self.assertEqual(answer(module, name, copy.deepcopy(kept)), told, name)

    def test_lists_told_are_the_askers_own(self):
        for web, fall, other in some():
            for name, module, arguments in asked(web, fall, other):
                told = answer(module, name, arguments)
                kept, handed = copy.deepcopy(told), copy.deepcopy(arguments)
                spoil(told)
                self.assertEqual(answer(module, name, arguments), kept, name)
                self.assertEqual(arguments, handed, name)

    def test_no_list_is_told_twice_or_handed_back(self):
        for web, fall, other in some():
            for name, module, arguments in asked(web, fall, other):
                told, again = answer(module, name, arguments), answer(module, name, arguments)
                lists = [id(part) for part in parts(told) if isinstance(part, list)]
                others = {id(part) for part in parts(again) + parts(arguments) if isinstance(part, list)}
                self.assertEqual(len(set(lists)), len(lists), name)
                self.assertEqual(set(lists) & others, set(), name)

    def test_nothing_handed_in_is_kept(self):
        for web, fall, other in some():
            for name, module, arguments in asked(web, fall, other):
                told = answer(module, name, arguments)
                copied = copy.deepcopy(arguments)
                first = answer(module, name, copied)
                spoil(copied)
                self.assertEqual(first, told, name)
                self.assertEqual(answer(module, name, arguments), told, name)

    def test_whole_numbers_are_no_truths(self):
        """But where True or False is the answer."""
        for web, fall, other in some():
            for name, module, arguments in asked(web, fall, other):
                told = answer(module, name, arguments)
                if name.startswith("is_") or name.endswith("_right"):
                    self.assertTrue(told is True or told is False or isinstance(told, type), name)
                else:
                    self.assertFalse(any(isinstance(part, bool) for part in parts(told)), name)

    def test_refusals_are_beneath_rill_error(self):
        refused = set()
        for web, fall, other in some():
            for name, module, arguments in asked(web, fall, other):
                told = answer(module, name, arguments)
                if isinstance(told, type):
                    self.assertEqual(told.__bases__, (errors.RillError,))
                    refused.add(told.__name__)
        wanted = {"TooMany", "There", "NoTie", "NoSpring", "NoMouth", "Apart", "SamePlace", "NoText"}
        self.assertEqual(refused, wanted)

    def test_tuples_where_lists_are_told(self):
        for web, fall, other in some():
            steps, way, heights = longest(web, fall)
            self.assertIs(longest_right(web, fall, steps, tuple(way), heights), True)
            self.assertIs(road_right(web, fall, other, tuple(road(web, fall, other))), True)
            row = shortest(web, fall)
            self.assertIs(kin_right(web, fall, row[1], ("turns", tuple(row[2]))), True)
            if is_whole_web(web) and len(web[1]) <= 10:
                found, hues, paper = least_worth(web)
                self.assertIs(least_right(web, found, hues, tuple(paper)), True)

    def test_lists_are_none_where_tuples_are_told(self):
        for web, fall, other in some():
            steps, way, heights = longest(web, fall)
            self.assertIs(longest_right(web, fall, steps, way, list(heights)), False)
            k, hues, paper = fewest(web)
            self.assertIs(fewest_right(web, k, list(hues), paper), False)
            found, ring, numbers = worth(web, fall)
            self.assertIs(worth_right(web, fall, list(found), ring, numbers), False)
            self.assertIs(worth_right(web, fall, found, ring, list(numbers)), False)
            for name, module, arguments in [
                ("is_web", "webs", (list(web),)), ("is_pointing", "pointings", (web, list(fall))),
                ("is_hues", "hues", (web, list(heights))), ("is_round_hues", "roundhues", (web, 99, 1, list(heights))),
                ("is_ring", "webs", (web, [0, 1, 2])), ("is_round", "pointings", (web, fall, [0, 1, 2])),
            ]:
                self.assertIs(answer(module, name, arguments), False, name)

    def test_is_functions_of_anything(self):
        things = OTHER_KINDS + [[1, [2, [3, [4, [5]]]]], ((((1, 2), 3), 4), 5), {"a": {"b": {"c": {"d": {}}}}}, [()] * 80]
        for web, fall, other in some():
            for thing in things:
                for name, module, arguments in [
                    ("is_whole", "webs", (thing,)), ("is_web", "webs", (thing,)), ("is_ring", "webs", (web, thing)),
                    ("is_pointing", "pointings", (web, thing)), ("is_round", "pointings", (web, fall, thing)),
                    ("is_hues", "hues", (web, thing)), ("is_round_hues", "roundhues", (web, 3, 1, thing)),
                ]:
                    kept = copy.deepcopy(thing)
                    self.assertIn(answer(module, name, arguments), (True, False))
                    self.assertEqual(thing, kept)


class ThePromise(unittest.TestCase):
    def test_of_every_pointing_just_one(self):
        for web in small_webs(4):
            rings = [ring for ring in slow_rings(web)]
            for pointing in all_pointings(web):
                word, thing = looked(web, pointing)
                self.assertEqual(word, "order" if is_fall(web, pointing) else "round")
                if word == "order":
                    self.assertEqual(ordered(web, thing), pointing)
                    self.assertFalse(any(is_round(web, pointing, row) for ring in rings for row in (ring, ring[::-1])))
                else:
                    self.assertIs(is_round(web, pointing, thing), True)

    def test_over_all_falls_of_small_webs(self):
        for web in small_webs(4) + [FIVE_RING]:
            falls = slow_falls(web)
            self.assertEqual(all_falls(web), falls)
            steps = [longest(web, fall)[0] for fall in falls]
            k, hues, paper = fewest(web)
            self.assertEqual(min(steps), k - 1, web)
            kins = {}
            for fall in falls:
                kins.setdefault(next((one for one in kins if kin(web, fall, one)[0] == "turns"), fall), []).append(fall)
            for one, others in kins.items():
                worths = {worth(web, fall)[0] for fall in others}
                self.assertEqual(len(worths), 1, (web, one))
                top, bottom = worths.pop()
                self.assertEqual(min(longest(web, fall)[0] for fall in others), -(-top // bottom) - 1, (web, one))
                self.assertEqual({shortest(web, fall)[0] for fall in others}, {-(-top // bottom) - 1}, (web, one))
            if is_whole_web(web):
                found, hues, paper = least_worth(web)
                self.assertEqual(len(paper), len(kins), web)
                self.assertIs(least_right(web, found, hues, paper), True)
                self.assertEqual(-(-found[0] // found[1]), k, web)

    def test_of_every_two_falls_just_one(self):
        for web in [TRIANGLE, SQUARE, THREE_PIECES, WHEEL, NINE_RING]:
            for one, other in itertools.product(mixed_falls(web, 6, 243), repeat=2):
                word, thing = kin(web, one, other)
                self.assertIs(kin_right(web, one, other, (word, thing)), True)
                if word == "turns":
                    self.assertFalse(any(kin_right(web, one, other, ("ring", ring)) for ring in slow_rings(web)))
                else:
                    self.assertIs(is_ring(web, thing), True)

    def test_what_is_told_may_be_handed_in_again(self):
        for web, fall, other in some():
            self.assertIs(fewest_right(web, *fewest(web)), True)
            self.assertIs(longest_right(web, fall, *longest(web, fall)), True)
            self.assertIs(worth_right(web, fall, *worth(web, fall)), True)
            self.assertIs(kin_right(web, fall, other, kin(web, fall, other)), True)
            self.assertIs(road_right(web, fall, other, road(web, fall, other)), True)
            if is_whole_web(web) and web[0] > 1:
                self.assertIs(poled_right(web, 0, 1, poled(web, 0, 1)), True)
                if len(web[1]) <= 10:
                    self.assertIs(least_right(web, *least_worth(web)), True)
                    for one in seated(web, 0):
                        self.assertIs(worth_right(web, one, *worth(web, one)), True)


if __name__ == "__main__":
    unittest.main()
