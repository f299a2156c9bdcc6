"""Tables of all motions of a flight: their heights behind each step, by mode and rate."""

from climborsink.courses import modes_from, word_of
from climborsink.kinds import is_tuple_of, is_whole, is_whole_within
from climborsink.makes import may_go, rates_from

# The places of the two heights in an entry (mode, rate, least, greatest).
LEAST = 2
GREATEST = 3


def ways_on(flight, mode, rate, step):
    """All (mode, rate) to which one may go from this mode and rate in a step."""
    make, course = flight[0], flight[3]
    return [
        (later, following)
        for later in modes_from(course, mode, step)
        for following in rates_from(make, word_of(course, later), rate)
    ]


def first_row(flight):
    make, height, rate, course = flight
    return ((0, rate, height, height),)


def next_row(flight, row, step):
    spans = {}
    for mode, rate, least, greatest in row:
        for way in ways_on(flight, mode, rate, step):
            low, high = least + way[1], greatest + way[1]
            if way in spans:
                low, high = min(low, spans[way][0]), max(high, spans[way][1])
            spans[way] = (low, high)
    return tuple([way + spans[way] for way in sorted(spans)])


def table(flight, *, steps):
    rows = [first_row(flight)]
    for step in range(1, steps + 1):
        rows.append(next_row(flight, rows[-1], step))
    return tuple(rows)


def is_entry(flight, thing):
    if not is_tuple_of(thing, 4):
        return False
    mode, rate, least, greatest = thing
    most, turns = flight[0][0], flight[3][1]
    return (
        is_whole_within(mode, 0, len(turns))
        and is_whole_within(rate, -most, most)
        and is_whole(least)
        and is_whole(greatest)
    )


def is_row(flight, thing):
    if not isinstance(thing, tuple):
        return False
    if not all([is_entry(flight, part) for part in thing]):
        return False
    # Rising by mode and rate alone: so none of these stands there twice.
    return all([entry[:2] < other[:2] for entry, other in zip(thing, thing[1:])])


def spans_of(row):
    return {(mode, rate): (least, greatest) for mode, rate, least, greatest in row}


def span_holds(spans, way, least, greatest):
    return way in spans and spans[way][0] <= least and greatest <= spans[way][1]


def leads_on(flight, row, following, step):
    """Whether the following row holds all that comes of this row's entries in a step."""
    spans = spans_of(following)
    for mode, rate, least, greatest in row:
        for way in ways_on(flight, mode, rate, step):
            if not span_holds(spans, way, least + way[1], greatest + way[1]):
                return False
    return True


def stands(flight, thing, *, steps):
    if not is_tuple_of(thing, steps + 1):
        return False
    if not all([is_row(flight, part) for part in thing]):
        return False
    make, height, rate, course = flight
    if not span_holds(spans_of(thing[0]), (0, rate), height, height):
        return False
    return all([leads_on(flight, thing[step - 1], thing[step], step) for step in range(1, steps + 1)])


def reach(rows):
    return tuple([
        (min([entry[LEAST] for entry in row]), max([entry[GREATEST] for entry in row]))
        for row in rows
    ])


def came_from(flight, row, entry, at):
    """An entry of the row ahead from whose height (at its place) one may go to this entry's."""
    make, course = flight[0], flight[3]
    mode, rate = entry[:2]
    word = word_of(course, mode)
    fitting = [
        ahead for ahead in row
        if ahead[0] <= mode and ahead[at] + rate == entry[at] and may_go(make, word, ahead[1], rate)
    ]
    return fitting[0]


def end_of(row, lowest):
    """The entry that has the least of all leasts of the row, else the greatest of all greatests."""
    if lowest:
        return min(row, key=lambda entry: entry[LEAST])
    return max(row, key=lambda entry: entry[GREATEST])


def motion_in(flight, rows, step, lowest):
    """A motion to the least height behind a step, else to the greatest, by the flight's own table."""
    at = LEAST if lowest else GREATEST
    entry = end_of(rows[step], lowest)
    rates = []
    for ahead in range(step - 1, -1, -1):
        rates.append(entry[1])
        entry = came_from(flight, rows[ahead], entry, at)
    return tuple(rates[::-1])


def motion_to(flight, *, step, lowest=True):
    return motion_in(flight, table(flight, steps=step), step, lowest)
