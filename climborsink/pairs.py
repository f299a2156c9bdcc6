"""Two craft: whether the one stays above the other through a window, shown either way."""

from climborsink.courses import MOST_STEPS
from climborsink.kinds import is_tuple_of, is_whole_within
from climborsink.tables import motion_in, reach, table

MISS = 1
GREATEST_MISS = 1000000


def is_window(thing):
    if not is_tuple_of(thing, 2):
        return False
    first, last = thing
    return is_whole_within(last, 1, MOST_STEPS) and is_whole_within(first, 1, last)


def is_miss(thing):
    return is_whole_within(thing, 1, GREATEST_MISS)


def chart_of(flight, rows):
    """A flight with rows that stand as its table, and their reach."""
    return (flight, rows, reach(rows))


def chart(flight, steps):
    """A flight with its own table and the table's reach, so that these are made but once."""
    return chart_of(flight, table(flight, steps=steps))


def between(upper, lower, step):
    """The least that the upper chart's flight can be above the lower one's behind a step."""
    return upper[2][step][0] - lower[2][step][1]


def steps_of(window):
    first, last = window
    return list(range(first, last + 1))


def charts_gap(upper, lower, window):
    return min([between(upper, lower, step) for step in steps_of(window)])


def charts_break(upper, lower, window, miss):
    """(step, motion, other motion) at the first step that breaks the miss, where the gap is below it."""
    broken = [step for step in steps_of(window) if between(upper, lower, step) < miss]
    first = broken[0]
    motion = motion_in(upper[0], upper[1], first, True)
    other = motion_in(lower[0], lower[1], first, False)
    return (first, motion, other)


def gap(upper, lower, *, window):
    last = window[1]
    return charts_gap(chart(upper, last), chart(lower, last), window)


def shown(upper, lower, *, window, miss=MISS):
    last = window[1]
    above, below = chart(upper, last), chart(lower, last)
    if charts_gap(above, below, window) >= miss:
        return ("kept", above[1], below[1])
    step, motion, other = charts_break(above, below, window, miss)
    return ("broken", step, motion, other)
