"""Words dealt to two craft or more, the room that they make, and the order from the top down."""

from climborsink.courses import LATE, with_turn
from climborsink.errors import NoOrder
from climborsink.kinds import is_tuple_of
from climborsink.pairs import MISS, chart, charts_break, charts_gap

WORDS = ("climb", "hold", "sink")
FEWEST_CRAFT = 2
MOST_CRAFT = 4


def is_tuple_for_craft(thing):
    """Whether any thing is a tuple with a part for each of two to four craft."""
    return isinstance(thing, tuple) and FEWEST_CRAFT <= len(thing) <= MOST_CRAFT


def are_words(thing, many):
    """Whether any thing is words to deal to so many craft."""
    return is_tuple_of(thing, many) and all([word in WORDS for word in thing])


def dealt(flight, word, *, late=LATE):
    make, height, rate, course = flight
    return (make, height, rate, with_turn(course, word, late))


def pairs_of(many):
    """All two of so many places, the lower place ahead."""
    return [(i, j) for i in range(many) for j in range(i + 1, many)]


def all_words(many):
    """All words for so many craft, rising."""
    found = [()]
    for place in range(many):
        found = [(*words, word) for words in found for word in WORDS]
    return found


def apart(one, other, window):
    """The greater one of both gaps of two charts."""
    return max(charts_gap(one, other, window), charts_gap(other, one, window))


def charts_by(flights, words, late, window):
    """The charts of the flights dealt these words, by places."""
    return [chart(dealt(flight, word, late=late), window[1]) for flight, word in zip(flights, words)]


def charts_room(charts, window):
    return min([apart(charts[i], charts[j], window) for i, j in pairs_of(len(charts))])


def room(flights, words, *, window, late=LATE):
    return charts_room(charts_by(flights, words, late, window), window)


def charts_of_all(flights, late, window):
    """The charts of all dealt flights, by place and word: the best words are looked for among them."""
    return {
        (place, word): chart(dealt(flight, word, late=late), window[1])
        for place, flight in enumerate(flights) for word in WORDS
    }


def aparts_of(charts, many, window):
    """How far apart each two places are by each two words, by (place, other place, word, other word)."""
    return {
        (i, j, word, other): apart(charts[i, word], charts[j, other], window)
        for i, j in pairs_of(many) for word in WORDS for other in WORDS
    }


def best_by(aparts, many):
    best_words, best_room = None, None
    for words in all_words(many):
        found = min([aparts[i, j, words[i], words[j]] for i, j in pairs_of(many)])
        # Of several with the same room the first one stays.
        if best_room is None or found > best_room:
            best_words, best_room = words, found
    return (best_words, best_room)


def best(flights, *, window, late=LATE):
    many = len(flights)
    charts = charts_of_all(flights, late, window)
    return best_by(aparts_of(charts, many, window), many)


def order_by(charts, window):
    # Who is parted from another is above it at each step of the window, so at the first one.
    first = window[0]
    return tuple(sorted(range(len(charts)), key=lambda place: -charts[place][2][first][0]))


def order_of(flights, words, *, window, late=LATE):
    charts = charts_by(flights, words, late, window)
    found = charts_room(charts, window)
    if found < 1:
        raise NoOrder(found)
    return order_by(charts, window)


def unparted(charts, aparts, window, miss):
    """An entry for each two places and words that are not parted by the miss."""
    entries = []
    for i, j, word, other in aparts:
        if aparts[i, j, word, other] < miss:
            one, two = charts[i, word], charts[j, other]
            over = charts_break(one, two, window, miss)
            under = charts_break(two, one, window, miss)
            entries.append((i, j, word, other, over, under))
    return tuple(entries)


def parting(flights, *, window, late=LATE, miss=MISS):
    many = len(flights)
    charts = charts_of_all(flights, late, window)
    aparts = aparts_of(charts, many, window)
    words, found = best_by(aparts, many)
    if found < miss:
        return ("none", unparted(charts, aparts, window, miss))
    chosen = [charts[place, word] for place, word in enumerate(words)]
    tables = tuple([rows for flight, rows, reaches in chosen])
    return ("dealt", words, order_by(chosen, window), tables)
