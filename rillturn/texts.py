"""Texts of webs and of pointings, written and read."""

from rillturn.errors import NoText
from rillturn.pointings import arrows
from rillturn.webs import is_web, tie_of

FIGURES = "0123456789"


def joined(many, sign, pairs):
    """The text of a count and of pairs of places with a sign between."""
    return " ".join([str(many)] + [f"{a}{sign}{b}" for a, b in pairs])


def web_text(web):
    """A web's text."""
    return joined(web[0], "-", web[1])


def pointing_text(web, pointing):
    """A pointing's text, with its web."""
    return joined(web[0], ">", arrows(web, pointing))


def read_figure(word):
    """The number of one figure, as all numbers of a web are: NoText."""
    if len(word) != 1 or word not in FIGURES:
        raise NoText("there is no figure where one is due")
    return int(word)


def read_pair(word, sign):
    """The two places with a sign between: NoText."""
    if len(word) != 3 or word[1] != sign:
        raise NoText("there is no tie where one is due")
    return (read_figure(word[0]), read_figure(word[2]))


def read_pairs(thing, sign):
    """The count and the list of pairs of places of a text: NoText."""
    if not isinstance(thing, str):
        raise NoText("the thing is no text")
    words = thing.split(" ")
    return (read_figure(words[0]), [read_pair(word, sign) for word in words[1:]])


def asked_web(many, ties):
    """The web of a count and of a list of ties: NoText where they make none."""
    web = (many, tuple(ties))
    if not is_web(web):
        raise NoText("the text is not that of a web")
    return web


def read_web(thing):
    """The web of a text: NoText."""
    many, pairs = read_pairs(thing, "-")
    return asked_web(many, pairs)


def read_pointing(thing):
    """The web and the pointing of a text, a fall or not: NoText."""
    many, pairs = read_pairs(thing, ">")
    # A pair of one place twice makes a tie that no web has.
    web = asked_web(many, [tie_of(a, b) for a, b in pairs])
    return (web, tuple([1 if a < b else 0 for a, b in pairs]))
