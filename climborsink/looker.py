"""The looker: whether a paper, whoever wrote it, shows what a claim says."""

from climborsink.courses import heights_of, is_flight, is_limit, is_motion
from climborsink.dealing import WORDS, all_words, are_words, dealt, is_tuple_for_craft, pairs_of
from climborsink.kinds import is_text, is_tuple_of, is_whole, is_whole_within
from climborsink.pairs import chart_of, charts_gap, is_miss, is_window
from climborsink.tables import stands

# A word is dealt behind them, and a course has at most three turns.
MOST_TURNS_AHEAD = 2


def is_pair_claim(claim):
    name, upper, lower, window, miss = claim
    return is_flight(upper) and is_flight(lower) and is_window(window) and is_miss(miss)


def parted_holds(claim, paper):
    if not is_pair_claim(claim) or not is_tuple_of(paper, 3) or paper[0] != "kept":
        return False
    name, upper, lower, window, miss = claim
    kept, rows, other = paper
    if not stands(upper, rows, steps=window[1]) or not stands(lower, other, steps=window[1]):
        return False
    return charts_gap(chart_of(upper, rows), chart_of(lower, other), window) >= miss


def is_motion_of(flight, thing, steps):
    return is_motion(flight, thing) and len(thing) == steps


def last_height(flight, motion):
    return heights_of(flight, motion)[-1]


def is_break(upper, lower, window, miss, thing):
    """Whether any thing is (step, motion, other motion) by which the miss isn't kept."""
    if not is_tuple_of(thing, 3):
        return False
    step, motion, other = thing
    if not is_whole_within(step, window[0], window[1]):
        return False
    if not is_motion_of(upper, motion, step) or not is_motion_of(lower, other, step):
        return False
    return last_height(upper, motion) - last_height(lower, other) < miss


def met_holds(claim, paper):
    if not is_pair_claim(claim) or not is_tuple_of(paper, 4) or paper[0] != "broken":
        return False
    name, upper, lower, window, miss = claim
    return is_break(upper, lower, window, miss, paper[1:])


def may_be_dealt(flight, late):
    """Whether any thing is a flight behind whose turns a word can be dealt with this late."""
    if not is_flight(flight):
        return False
    turns = flight[3][1]
    return len(turns) <= MOST_TURNS_AHEAD and all([limit <= late for word, limit in turns])


def is_group_claim(claim):
    name, flights, window, late, miss = claim
    if not is_window(window) or not is_limit(late) or not is_miss(miss):
        return False
    return is_tuple_for_craft(flights) and all([may_be_dealt(flight, late) for flight in flights])


def is_order(thing, many):
    if not is_tuple_of(thing, many) or not all([is_whole(place) for place in thing]):
        return False
    return sorted(thing) == list(range(many))


def tables_stand(flights, tables, steps):
    if not is_tuple_of(tables, len(flights)):
        return False
    return all([stands(flight, rows, steps=steps) for flight, rows in zip(flights, tables)])


def parting_holds(claim, paper):
    if not is_group_claim(claim) or not is_tuple_of(paper, 4) or paper[0] != "dealt":
        return False
    name, flights, window, late, miss = claim
    words, order, tables = paper[1:]
    if not are_words(words, len(flights)) or not is_order(order, len(flights)):
        return False
    flown = [dealt(flight, word, late=late) for flight, word in zip(flights, words)]
    if not tables_stand(flown, tables, window[1]):
        return False
    charts = [chart_of(flown[place], tables[place]) for place in order]
    return all([charts_gap(upper, lower, window) >= miss for upper, lower in zip(charts, charts[1:])])


def is_unparted(claim, entry):
    """Whether any thing is an entry of two places and words with motions that break it both ways."""
    if not is_tuple_of(entry, 6):
        return False
    name, flights, window, late, miss = claim
    i, j, word, other, over, under = entry
    if not is_whole_within(j, 1, len(flights) - 1) or not is_whole_within(i, 0, j - 1):
        return False
    if word not in WORDS or other not in WORDS:
        return False
    one, two = dealt(flights[i], word, late=late), dealt(flights[j], other, late=late)
    return is_break(one, two, window, miss, over) and is_break(two, one, window, miss, under)


def meets_all_words(entries, many):
    """Whether each words has an entry of its two words at some two places."""
    met = {entry[:4]: True for entry in entries}
    pairs = pairs_of(many)
    return all([
        any([(i, j, words[i], words[j]) in met for i, j in pairs])
        for words in all_words(many)
    ])


def no_parting_holds(claim, paper):
    if not is_group_claim(claim) or not is_tuple_of(paper, 2) or paper[0] != "none":
        return False
    entries = paper[1]
    if not isinstance(entries, tuple) or not all([is_unparted(claim, entry) for entry in entries]):
        return False
    return meets_all_words(entries, len(claim[1]))


CLAIMS = {
    "parted": parted_holds,
    "met": met_holds,
    "parting": parting_holds,
    "no parting": no_parting_holds,
}


def holds(claim, paper):
    if not is_tuple_of(claim, 5) or not is_text(claim[0]) or claim[0] not in CLAIMS:
        return False
    look = CLAIMS[claim[0]]
    return look(claim, paper)
