"""A desk that keeps a web and a fall of it, is told deeds and asked questions by rows, and answers with texts."""

from rillturn.counts import falls_many, hueings, kins_many
from rillturn.errors import NoFall, NoPast, NoPlace, NoRow, NoTie, SamePlace
from rillturn.fewest import fewest
from rillturn.heights import longest
from rillturn.kin import mark
from rillturn.pointings import arrows, looked
from rillturn.poles import poled
from rillturn.roundhues import least_worth
from rillturn.seats import seat
from rillturn.springs import mouths, springs, turn_mouth, turn_spring
from rillturn.texts import FIGURES, pointing_text, read_pointing
from rillturn.turning import free_ties, turned
from rillturn.webs import is_place, tie_of, tied, untied
from rillturn.worths import shortest, weighed

TAKE = "take "
MOST_FIGURES = 3


def fall_of(web, pointing):
    """A web and a pointing of it: NoFall where this has a round."""
    if looked(web, pointing)[0] == "round":
        raise NoFall("there is a round")
    return (web, pointing)


def do_take(text):
    """The web and the fall of a text: NoText, NoFall."""
    web, pointing = read_pointing(text)
    return fall_of(web, pointing)


def do_tie(web, fall, numbers):
    """A tie more, pointed from the first place to the second one: SamePlace, There, TooMany, NoFall."""
    a, b = numbers
    if a == b:
        raise SamePlace(f"both are {a}")
    more = tied(web, a, b)
    at = more[1].index(tie_of(a, b))
    return fall_of(more, fall[:at] + (1 if a < b else 0,) + fall[at:])


def do_untie(web, fall, numbers):
    """A tie less: NoTie."""
    a, b = numbers
    less = untied(web, a, b)
    at = web[1].index(tie_of(a, b))
    return (less, fall[:at] + fall[at + 1:])


def do_turn(web, fall, numbers):
    """The tie that leads from the first place to the second one turned: NoTie, NoFall."""
    led = arrows(web, fall)
    if tuple(numbers) not in led:
        raise NoTie("no tie leads so")
    return fall_of(web, turned(web, fall, led.index(tuple(numbers))))


def do_spring(web, fall, numbers):
    """A spring turned: NoSpring."""
    return (web, turn_spring(web, fall, numbers[0]))


def do_mouth(web, fall, numbers):
    """A mouth turned: NoMouth."""
    return (web, turn_mouth(web, fall, numbers[0]))


def do_seat(web, fall, numbers):
    """The fall led to its kin that is seated at a place: Apart."""
    return (web, seat(web, fall, numbers[0])[0])


def row_text(words):
    """Words with a blank between, or a dash where there are none."""
    return " ".join([str(word) for word in words]) if words else "-"


def ratio_text(ratio):
    """The text of a worth."""
    return f"{ratio[0]}/{ratio[1]}"


def tell_show(web, fall, numbers):
    """The fall's text."""
    return pointing_text(web, fall)


def tell_springs(web, fall, numbers):
    """All springs."""
    return row_text(springs(web, fall))


def tell_mouths(web, fall, numbers):
    """All mouths."""
    return row_text(mouths(web, fall))


def tell_heights(web, fall, numbers):
    """All heights."""
    return row_text(longest(web, fall)[2])


def tell_mark(web, fall, numbers):
    """The mark."""
    return row_text(mark(web, fall))


def tell_steps(web, fall, numbers):
    """How many steps the longest way has."""
    return str(longest(web, fall)[0])


def tell_free(web, fall, numbers):
    """The free ties, as arrows."""
    led = arrows(web, fall)
    return row_text([f"{led[k][0]}>{led[k][1]}" for k in free_ties(web, fall)])


def tell_worth(web, fall, numbers):
    """The fall's worth."""
    return ratio_text(weighed(web, fall)[0])


def tell_short(web, fall, numbers):
    """The fewest steps of a longest way among kin."""
    return str(shortest(web, fall)[0])


def tell_fewest(web, fall, numbers):
    """How many the fewest hues are."""
    return str(fewest(web)[0])


def tell_round(web, fall, numbers):
    """The least worth of all falls: Apart, TooMany."""
    return ratio_text(least_worth(web)[0])


def tell_falls(web, fall, numbers):
    """How many falls there are."""
    return str(falls_many(web))


def tell_kins(web, fall, numbers):
    """How many kins there are: Apart."""
    return str(kins_many(web))


def tell_hues(web, fall, numbers):
    """How many tuples of hues there are with numbers below one."""
    return str(hueings(web, numbers[0]))


def tell_poles(web, fall, numbers):
    """Whether a fall is poled by two places: Apart, SamePlace."""
    a, b = numbers
    return "yes" if poled(web, a, b)[0] == "order" else "no"


DEEDS = {
    "tie": do_tie, "untie": do_untie, "turn": do_turn, "spring": do_spring, "mouth": do_mouth, "seat": do_seat,
}
QUESTIONS = {
    "show": tell_show, "springs": tell_springs, "mouths": tell_mouths, "heights": tell_heights, "mark": tell_mark,
    "steps": tell_steps, "free": tell_free, "worth": tell_worth, "short": tell_short, "fewest": tell_fewest,
    "round": tell_round, "falls": tell_falls, "kins": tell_kins, "hues": tell_hues, "poles": tell_poles,
}
# How many numbers stand behind a word; behind all other words none do.
NUMBERS = {"tie": 2, "untie": 2, "turn": 2, "spring": 1, "mouth": 1, "seat": 1, "hues": 1, "poles": 2}


def read_number(word):
    """The whole number that is written by at most three figures, no 0 ahead: NoRow."""
    if not 1 <= len(word) <= MOST_FIGURES or not all([sign in FIGURES for sign in word]):
        raise NoRow("there is no number where one is due")
    if len(word) > 1 and word[0] == "0":
        raise NoRow("a number has a 0 ahead")
    return int(word)


def read_row(row):
    """The first word of a row that is none to take, and the list of the numbers behind it: NoRow."""
    if not isinstance(row, str):
        raise NoRow("the thing is no text")
    word, *rest = row.split(" ")
    if word != "back" and word not in DEEDS and word not in QUESTIONS:
        raise NoRow("there is no such row")
    if len(rest) != NUMBERS.get(word, 0):
        raise NoRow("there are more or fewer numbers than are due")
    return (word, [read_number(figures) for figures in rest])


def refuse_no_place(web, word, numbers):
    """NoPlace where a number is no place, though it should be one."""
    if word != "hues" and not all([is_place(web, number) for number in numbers]):
        raise NoPlace("a number is no place")


class Desk:
    """A web and a fall of it, and what they were ahead of each deed that stands."""

    def __init__(self):
        self.web = (1, ())
        self.fall = ()
        self.past = []

    def keep(self, web, fall):
        """A deed done: its web and fall are kept."""
        self.past.append((self.web, self.fall))
        self.web = web
        self.fall = fall
        return "ok"

    def back(self):
        """The last deed that stands taken back: NoPast."""
        if not self.past:
            raise NoPast("no deed stands")
        web, fall = self.past.pop()
        self.web = web
        self.fall = fall
        return "ok"

    def say(self, row):
        """The answer to a row, a deed or a question."""
        if isinstance(row, str) and row.startswith(TAKE):
            web, fall = do_take(row[len(TAKE):])
            return self.keep(web, fall)
        word, numbers = read_row(row)
        if word == "back":
            return self.back()
        refuse_no_place(self.web, word, numbers)
        if word in QUESTIONS:
            question = QUESTIONS[word]
            return question(self.web, self.fall, numbers)
        deed = DEEDS[word]
        web, fall = deed(self.web, self.fall, numbers)
        return self.keep(web, fall)
