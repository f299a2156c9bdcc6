"""How a desk's rows are written: what stands behind the name of a row is read, None where it isn't so."""

from climborsink.courses import is_limit
from climborsink.dealing import are_words
from climborsink.kinds import is_text
from climborsink.pairs import is_miss, is_window

FIGURES = "0123456789"
MOST_FIGURES = 9


def parts_of(row):
    """The words of a row; none of a thing that is no text, or has an end or two blanks without a word."""
    if not is_text(row):
        return []
    parts = row.split(" ")
    return [] if "" in parts else parts


def are_figures(text):
    if not 1 <= len(text) <= MOST_FIGURES or not all([sign in FIGURES for sign in text]):
        return False
    return text == "0" or text[0] != "0"


def number_in(text):
    if are_figures(text):
        return int(text)
    if text.startswith("-") and text != "-0" and are_figures(text[1:]):
        return -int(text[1:])
    return None


def numbers_in(parts, many):
    """A tuple of so many numbers."""
    numbers = tuple([number_in(part) for part in parts])
    return None if len(numbers) != many or None in numbers else numbers


def read_nothing(parts, craft):
    return () if parts == [] else None


def read_number(parts, craft):
    return numbers_in(parts, 1)


def read_rates(parts, craft):
    return numbers_in(parts, craft)


def read_words(parts, craft):
    words = tuple(parts)
    return words if are_words(words, craft) else None


def read_window_and_late(parts, craft):
    """(window, late)."""
    numbers = numbers_in(parts, 3)
    if numbers is None or not is_window(numbers[:2]) or not is_limit(numbers[2]):
        return None
    return (numbers[:2], numbers[2])


def read_window_late_and_words(parts, craft):
    """(window, late, words)."""
    ahead, words = read_window_and_late(parts[:3], craft), read_words(parts[3:], craft)
    return None if ahead is None or words is None else (*ahead, words)


def read_window_late_and_miss(parts, craft):
    """(window, late, miss)."""
    ahead, numbers = read_window_and_late(parts[:3], craft), numbers_in(parts[3:], 1)
    if ahead is None or numbers is None or not is_miss(numbers[0]):
        return None
    return (*ahead, numbers[0])


READERS = {
    "deal": read_words,
    "ask": read_nothing,
    "clear": read_nothing,
    "send": read_nothing,
    "carry": read_number,
    "lose": read_number,
    "double": read_number,
    "move": read_rates,
    "words": read_nothing,
    "heights": read_nothing,
    "rates": read_nothing,
    "turns": read_nothing,
    "phase": read_nothing,
    "post": read_nothing,
    "log": read_nothing,
    "best": read_window_and_late,
    "room": read_window_late_and_words,
    "parted": read_window_late_and_miss,
}


def row_of(thing, craft):
    """(name, what was told behind it) of a row for so many craft, None of any thing that is no row."""
    parts = parts_of(thing)
    if parts == [] or parts[0] not in READERS:
        return None
    read = READERS[parts[0]]
    told = read(parts[1:], craft)
    return None if told is None else (parts[0], told)
