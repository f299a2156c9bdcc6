"""Makes, their rates, and from which rate one may go to which by a word."""

from climborsink.kinds import is_tuple_of, is_whole_within

GREATEST_MOST = 9
GREATEST_CHANGE = 4
FOUR_WORDS = ("climb", "free", "hold", "sink")


def is_word(thing):
    return thing in FOUR_WORDS


def is_make(thing):
    if not is_tuple_of(thing, 4):
        return False
    most, change, haste, goal = thing
    return (
        is_whole_within(most, 1, GREATEST_MOST)
        and is_whole_within(change, 1, GREATEST_CHANGE)
        and is_whole_within(haste, 1, change)
        and is_whole_within(goal, 1, most)
    )


def word_bounds(make, word, rate):
    """The least and the greatest rate of the make that the word lets by, however far off."""
    most, change, haste, goal = make
    if word == "climb":
        return min(rate + haste, goal), most
    if word == "sink":
        return -most, max(rate - haste, -goal)
    if word == "hold":
        # 0 is always let by, also from a rate that is nearer to it than haste.
        farthest = max(abs(rate) - haste, 0)
        return -farthest, farthest
    return -most, most


def next_bounds(make, word, rate):
    """The least and the greatest rate of those to which one may go: all between are such, too."""
    change = make[1]
    least, greatest = word_bounds(make, word, rate)
    return max(least, rate - change), min(greatest, rate + change)


def may_go(make, word, rate, other):
    least, greatest = next_bounds(make, word, rate)
    return is_whole_within(other, least, greatest)


def rates_from(make, word, rate):
    least, greatest = next_bounds(make, word, rate)
    return list(range(least, greatest + 1))
