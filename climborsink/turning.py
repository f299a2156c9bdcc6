"""Turning about: whether craft stay as they are, or hold first and then hear other words."""

from climborsink.courses import LATE
from climborsink.dealing import best, charts_room, dealt
from climborsink.pairs import chart


def turn_about(flights, *, window, held=LATE, late=2 * LATE):
    staying = charts_room([chart(flight, window[1]) for flight in flights], window)
    holding = tuple([dealt(flight, "hold", late=held) for flight in flights])
    words, turning = best(holding, window=window, late=late)
    if turning > staying:
        return ("turn", words, turning)
    return ("stay", staying)
