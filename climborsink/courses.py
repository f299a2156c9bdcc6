"""Courses, flights, the modes that a flight goes through, and its motions."""

from climborsink.errors import NoTurn
from climborsink.kinds import is_tuple_of, is_whole, is_whole_within
from climborsink.makes import is_make, is_word, may_go

LATE = 2
MOST_TURNS = 3
GREATEST_LIMIT = 12
MOST_STEPS = 24


def is_limit(thing):
    return is_whole_within(thing, 0, GREATEST_LIMIT)


def is_turn(thing):
    if not is_tuple_of(thing, 2):
        return False
    word, limit = thing
    return is_word(word) and is_limit(limit)


def are_turns(thing):
    if not isinstance(thing, tuple) or len(thing) > MOST_TURNS:
        return False
    if not all([is_turn(part) for part in thing]):
        return False
    limits = [limit for word, limit in thing]
    return limits == sorted(limits)


def is_course(thing):
    if not is_tuple_of(thing, 2):
        return False
    word, turns = thing
    return is_word(word) and are_turns(turns)


def is_flight(thing):
    if not is_tuple_of(thing, 4):
        return False
    make, height, rate, course = thing
    if not is_make(make):
        return False
    most = make[0]
    return is_whole(height) and is_whole_within(rate, -most, most) and is_course(course)


def with_turn(course, word, limit):
    first, turns = course
    return (first, (*turns, (word, limit)))


def turned(course, word, *, limit=LATE):
    turns = course[1]
    if len(turns) >= MOST_TURNS:
        raise NoTurn(None)
    if turns and limit < turns[-1][1]:
        raise NoTurn(turns[-1][1])
    return with_turn(course, word, limit)


def word_of(course, mode):
    word, turns = course
    return word if mode == 0 else turns[mode - 1][0]


def modes_at(course, step):
    if step == 0:
        return (0, 0)
    turns = course[1]
    due = [mode for mode, (word, limit) in enumerate(turns, start=1) if limit < step]
    return (max(due, default=0), len(turns))


def modes_from(course, mode, step):
    """The modes in which one may be in a step, rising, where one was in this mode ahead of it."""
    lowest, highest = modes_at(course, step)
    return list(range(max(mode, lowest), highest + 1))


def is_motion(flight, thing):
    if not isinstance(thing, tuple) or len(thing) > MOST_STEPS:
        return False
    make, height, rate, course = flight
    mode = 0
    for step, following in enumerate(thing, start=1):
        fitting = [
            later for later in modes_from(course, mode, step)
            if may_go(make, word_of(course, later), rate, following)
        ]
        if not fitting:
            return False
        # From the lowest mode one may go on to all that the others leave open.
        mode = fitting[0]
        rate = following
    return True


def heights_of(flight, motion):
    heights = [flight[1]]
    for rate in motion:
        heights.append(heights[-1] + rate)
    return tuple(heights)
