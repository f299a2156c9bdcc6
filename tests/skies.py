"""Skies and deeds at random, and what a sky tells, for the tests of the sky, its logs and the desk."""

from climborsink.errors import NoLetter, NoMotion, NotAgreed, NoWords
from climborsink.sky import Sky
from tests.books import Refused, SkyBook
from tests.oracle import DEALT_WORDS, rates_let_by, rates_of
from tests.samples import LARGE_MAKES, SMALL_MAKES

QUESTIONS = (
    "is_busy", "notes", "step", "heights", "rates", "words", "turns", "flights", "phase", "agreed", "under_way", "log")

WRONG_WORDS = ((), ("climb",), ("climb", "free"), ["climb", "sink"], "climb sink", None, True, (("climb", "sink"),))
WRONG_NUMBERS = (-1, 999999999, True, False, None, "0", (0,), [0], ())
WRONG_RATES = (10, -10, 999999999, True, False, None, "0", (0,), [0])


def random_parts(chance, many):
    makes = tuple(chance.choice(LARGE_MAKES + SMALL_MAKES) for place in range(many))
    heights = tuple(chance.randint(-300, 300) for place in range(many))
    return (makes, heights, tuple(chance.choice(rates_of(make)) for make in makes))


def random_words(chance, many):
    return tuple(chance.choice(DEALT_WORDS) for place in range(many))


def fitting_rates(chance, book):
    return tuple(
        chance.choice(rates_let_by(make, word, rate))
        for make, word, rate in zip(book.makes, book.words(), book.rates))


def wrong_rates(chance, book):
    """Rates that are often refused: bent at one place or two, too few, too many, no tuple."""
    rates = list(fitting_rates(chance, book))
    for bend in range(chance.choice((1, 1, 2))):
        rates[chance.randrange(len(rates))] = chance.choice(WRONG_RATES + tuple(range(-9, 10)))
    return chance.choice((tuple(rates), tuple(rates), tuple(rates), rates, tuple(rates[1:]), tuple(rates) + (0,), None))


def random_deed(chance, book, wrong=0.2):
    """(name, arguments) of a deed, which is refused now and then."""
    many = len(book.makes)
    name = chance.choice(("deal", "ask", "clear", "send", "send") + ("carry",) * 5 + ("lose", "double") + ("move",) * 3)
    astray = chance.random() < wrong
    if name in ("ask", "clear", "send"):
        return name, ()
    if name == "deal":
        return name, (chance.choice(WRONG_WORDS) if astray else random_words(chance, many),)
    if name == "move":
        return name, (wrong_rates(chance, book) if astray else fitting_rates(chance, book),)
    numbers = book.post.here()
    return name, (chance.choice(WRONG_NUMBERS) if astray or not numbers else chance.choice(numbers),)


def ask_sky(sky, name, arguments):
    """("told", the answer), or ("refused", the error's name, its fields)."""
    try:
        return ("told", getattr(sky, name)(*arguments))
    except (NoWords, NotAgreed, NoLetter, NoMotion) as error:
        return ("refused", type(error).__name__, vars(error))


def ask_book(book, name, arguments):
    try:
        return ("told", getattr(book, name)(*arguments))
    except Refused as refused:
        return ("refused", refused.name, refused.fields)


def tells(sky):
    return {name: getattr(sky, name)() for name in QUESTIONS}


def random_log_of_sky(chance, many, deeds, wrong=0):
    """A sky and its book behind so many deeds."""
    parts = random_parts(chance, many)
    sky, book = Sky(*parts), SkyBook(*parts)
    while len(book.log) < deeds:
        name, arguments = random_deed(chance, book, wrong)
        ask_sky(sky, name, arguments)
        ask_book(book, name, arguments)
    return sky, book
