"""Whether any thing is the log of a sky: its deeds are done anew."""

from climborsink.errors import NoLetter, NoMotion, NotAgreed, NoWords
from climborsink.kinds import is_same, is_text
from climborsink.sky import Sky


def deal_again(sky, deed):
    sky.deal(deed[1])


def ask_again(sky, deed):
    sky.ask()


def clear_again(sky, deed):
    sky.clear()


def send_again(sky, deed):
    sky.send()


def carry_again(sky, deed):
    sky.carry(deed[1])


def lose_again(sky, deed):
    sky.lose(deed[1])


def double_again(sky, deed):
    sky.double(deed[1])


def move_again(sky, deed):
    sky.move(deed[1])


AGAIN = {
    "deal": deal_again,
    "ask": ask_again,
    "clear": clear_again,
    "send": send_again,
    "carry": carry_again,
    "lose": lose_again,
    "double": double_again,
    "move": move_again,
}

# How many parts a deed has, its name too.
PARTS = {"deal": 2, "ask": 1, "clear": 1, "send": 2, "carry": 2, "lose": 2, "double": 3, "move": 2}


def has_parts(deed):
    if not isinstance(deed, tuple) or deed == () or not is_text(deed[0]):
        return False
    return len(deed) == PARTS.get(deed[0], 0)


def is_done(sky, deed):
    """Whether the sky can do this deed, and its log tells it in just these parts then."""
    if not has_parts(deed):
        return False
    again = AGAIN[deed[0]]
    try:
        again(sky, deed)
    except (NoWords, NotAgreed, NoLetter, NoMotion):
        return False
    return is_same(sky.deed(), deed)


def log_stands(makes, heights, rates, thing):
    if not isinstance(thing, tuple):
        return False
    sky = Sky(makes, heights, rates)
    for deed in thing:
        if not is_done(sky, deed):
            return False
    return True
