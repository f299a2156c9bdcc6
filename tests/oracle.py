"""Points 4 to 12 and 21 of the document, word for word and by plain search, to look at what the program tells.

Nothing here is imported from the program.
"""

import functools
import itertools

FOUR_WORDS = ("climb", "free", "hold", "sink")
DEALT_WORDS = ("climb", "hold", "sink")


def rates_of(make):
    return range(-make[0], make[0] + 1)


def is_number(thing):
    return type(thing) is int


def let_by(make, word, rate, other):
    """Point 4."""
    most, change, haste, goal = make
    if other not in range(-most, most + 1) or abs(other - rate) > change:
        return False
    if word == "climb":
        return not other < min(rate + haste, goal)
    if word == "sink":
        return not other > max(rate - haste, -goal)
    if word == "hold":
        return other == 0 or abs(rate) - abs(other) >= haste
    return True


# Point 5.

def is_course_by_words(thing):
    if type(thing) is not tuple or len(thing) != 2 or type(thing[1]) is not tuple or len(thing[1]) > 3:
        return False
    for turn in thing[1]:
        if type(turn) is not tuple or len(turn) != 2 or not is_number(turn[1]) or turn[1] not in range(13):
            return False
    words = [thing[0]] + [word for word, limit in thing[1]]
    limits = [limit for word, limit in thing[1]]
    falls = any(limits[at] < limits[at - 1] for at in range(1, len(limits)))
    return all(word in FOUR_WORDS for word in words) and not falls


def is_flight_by_words(thing):
    if type(thing) is not tuple or len(thing) != 4:
        return False
    make, height, rate, course = thing
    if type(make) is not tuple or len(make) != 4 or not all(is_number(part) for part in make):
        return False
    most, change, haste, goal = make
    if not (1 <= most <= 9 and 1 <= change <= 4 and 1 <= haste <= change and 1 <= goal <= most):
        return False
    return is_number(height) and is_number(rate) and rate in rates_of(make) and is_course_by_words(course)


def word_in(course, mode):
    return ([course[0]] + [word for word, limit in course[1]])[mode]


def may_be_in(course, mode, ahead, step):
    """Whether a craft may be in the mode in this step, in the mode ahead in the step ahead."""
    if mode < ahead or mode > len(course[1]):
        return False
    return all(mode >= number for number, (word, limit) in enumerate(course[1], 1) if limit < step)


@functools.lru_cache(maxsize=None)
def rates_let_by(make, word, rate):
    return tuple(other for other in rates_of(make) if let_by(make, word, rate, other))


def one_step(flight, mode, rate, step):
    """All (mode, rate) to which one may go."""
    make, height, first_rate, course = flight
    return [
        (later, other)
        for later in range(len(course[1]) + 1) if may_be_in(course, later, mode, step)
        for other in rates_let_by(make, word_in(course, later), rate)
    ]


def motions_with_modes(flight, steps):
    """All (motion, mode in which it can end), gone through one by one."""
    found = {((), 0)}
    for step in range(1, steps + 1):
        found = {
            (motion + (other,), later)
            for motion, mode in found
            for later, other in one_step(flight, mode, motion[-1] if motion else flight[2], step)
        }
    return found


def motions_of(flight, steps):
    return {motion for motion, mode in motions_with_modes(flight, steps)}


def modes_behind(flight, motion):
    """The set of all modes in which these rates can end; none where they are no motion."""
    make, height, rate, course = flight
    modes = {0}
    for step, other in enumerate(motion, 1):
        modes = {
            mode for mode in range(len(course[1]) + 1)
            if any(may_be_in(course, mode, ahead, step) for ahead in modes)
            and let_by(make, word_in(course, mode), rate, other)
        }
        rate = other
    return modes


def goes_by_hearing(flight, motion):
    """Whether there are modes for these rates, said otherwise: all ways to hear the turns are tried.

    A turn is heard ahead of some step, none ahead of one that stands before it,
    each behind step limit at the latest.
    """
    make, height, rate, (word, turns) = flight
    many = len(motion)
    rates = (rate,) + tuple(motion)
    for heard in itertools.combinations_with_replacement(range(1, many + 2), len(turns)):
        if any(at > limit + 1 and limit + 1 <= many for at, (told, limit) in zip(heard, turns)):
            continue
        words = [word_in(flight[3], sum(at <= step for at in heard)) for step in range(1, many + 1)]
        if all(let_by(make, words[k], rates[k], rates[k + 1]) for k in range(many)):
            return True
    return False


def is_flights_motion(flight, thing):
    return (
        type(thing) is tuple
        and len(thing) <= 24
        and all(is_number(rate) for rate in thing)
        and modes_behind(flight, thing) != set()
    )


def height_behind(flight, motion):
    return flight[1] + sum(motion)


# Points 6 and 7.

def table_by_motions(flight, steps):
    """The table by all motions, gone through one by one."""
    rows = []
    for many in range(steps + 1):
        ends = {}
        for motion, mode in motions_with_modes(flight, many):
            rate = motion[-1] if motion else flight[2]
            ends.setdefault((mode, rate), []).append(height_behind(flight, motion))
        rows.append(tuple((*end, min(ends[end]), max(ends[end])) for end in sorted(ends)))
    return tuple(rows)


# A set of heights is a number here: bit h + DEEP of it says whether the height that is
# h above the flight's own is there. No motion of 24 steps comes deeper than DEEP.
DEEP = 9 * 24 + 1


def moved(heights, rate):
    return heights << rate if rate >= 0 else heights >> -rate


def heights_by_ends(flight, steps):
    """For each step a dict from (mode, rate) to the set of all heights behind the motions that end so."""
    rows = [{(0, flight[2]): 1 << DEEP}]
    for step in range(1, steps + 1):
        row = {}
        for (mode, rate), heights in rows[-1].items():
            for end in one_step(flight, mode, rate, step):
                row[end] = row.get(end, 0) | moved(heights, end[1])
        rows.append(row)
    return rows


@functools.lru_cache(maxsize=None)
def long_table(flight, steps):
    """The table where the motions are too many to go through: by the sets of all heights."""
    deepest = flight[1] - DEEP
    return tuple(
        tuple(
            (*end, deepest + (row[end] & -row[end]).bit_length() - 1, deepest + row[end].bit_length() - 1)
            for end in sorted(row))
        for row in heights_by_ends(flight, steps)
    )


def entry_of_flight(flight, entry):
    return (
        type(entry) is tuple and len(entry) == 4
        and all(is_number(part) for part in entry)
        and entry[0] in range(len(flight[3][1]) + 1)
        and entry[1] in rates_of(flight[0])
    )


def stands_by_words(flight, thing, steps):
    """Point 7."""
    if type(thing) is not tuple or len(thing) != steps + 1:
        return False
    for row in thing:
        if type(row) is not tuple or not all(entry_of_flight(flight, entry) for entry in row):
            return False
        if list(row) != sorted(row) or len({entry[:2] for entry in row}) != len(row):
            return False
    if not any(
            mode == 0 and rate == flight[2] and least <= flight[1] <= greatest
            for mode, rate, least, greatest in thing[0]):
        return False
    for step in range(1, steps + 1):
        following = {entry[:2]: entry[2:] for entry in thing[step]}
        for mode, rate, least, greatest in thing[step - 1]:
            for end in one_step(flight, mode, rate, step):
                if end not in following:
                    return False
                if following[end][0] > least + end[1] or following[end][1] < greatest + end[1]:
                    return False
    return True


def reach_by_words(rows):
    return tuple((min(entry[2] for entry in row), max(entry[3] for entry in row)) for row in rows)


# Points 8 and 9.

def gap_by_motions(upper, lower, window):
    return min(
        min(height_behind(upper, motion) for motion in motions_of(upper, step))
        - max(height_behind(lower, motion) for motion in motions_of(lower, step))
        for step in range(window[0], window[1] + 1)
    )


def long_reach(flight, steps):
    return reach_by_words(long_table(flight, steps))


def gap_of_reaches(upper, lower, window):
    return min(upper[step][0] - lower[step][1] for step in range(window[0], window[1] + 1))


def long_gap(upper, lower, window):
    return gap_of_reaches(long_reach(upper, window[1]), long_reach(lower, window[1]), window)


def is_kept(upper, lower, window, miss, paper):
    return (
        type(paper) is tuple and len(paper) == 3 and paper[0] == "kept"
        and stands_by_words(upper, paper[1], window[1])
        and stands_by_words(lower, paper[2], window[1])
        and gap_of_reaches(reach_by_words(paper[1]), reach_by_words(paper[2]), window) >= miss
    )


def breaks(upper, lower, window, miss, thing):
    """Whether a thing is (k, motion, other motion) as in 9."""
    if type(thing) is not tuple or len(thing) != 3:
        return False
    step, motion, other = thing
    return (
        is_number(step) and window[0] <= step <= window[1]
        and is_flights_motion(upper, motion) and len(motion) == step
        and is_flights_motion(lower, other) and len(other) == step
        and height_behind(upper, motion) - height_behind(lower, other) < miss
    )


def is_broken(upper, lower, window, miss, paper):
    return (
        type(paper) is tuple and len(paper) == 4 and paper[0] == "broken"
        and breaks(upper, lower, window, miss, paper[1:])
    )


# Points 10 and 11.

def dealt_by_words(flight, word, late):
    make, height, rate, (first, turns) = flight
    return (make, height, rate, (first, turns + ((word, late),)))


def all_words(many):
    return sorted(itertools.product(DEALT_WORDS, repeat=many))


def dealt_reaches(flights, late, window):
    return {
        (place, word): long_reach(dealt_by_words(flight, word, late), window[1])
        for place, flight in enumerate(flights) for word in DEALT_WORDS
    }


def room_of_reaches(reaches, window):
    return min(
        max(gap_of_reaches(one, other, window), gap_of_reaches(other, one, window))
        for one, other in itertools.combinations(reaches, 2)
    )


def room_by_words(flights, words, window, late):
    return room_of_reaches(
        [long_reach(dealt_by_words(flight, word, late), window[1]) for flight, word in zip(flights, words)], window)


def rooms_by_words(flights, window, late):
    """A dict from all words, rising, to their rooms."""
    reaches = dealt_reaches(flights, late, window)
    return {
        words: room_of_reaches([reaches[place, word] for place, word in enumerate(words)], window)
        for words in all_words(len(flights))
    }


def best_by_words(flights, window, late):
    rooms = rooms_by_words(flights, window, late)
    greatest = max(rooms.values())
    return (min(words for words in rooms if rooms[words] == greatest), greatest)


def orders_by_words(flights, words, window, late, miss):
    """All orders in which each place is parted by the miss from all behind it."""
    reaches = [
        long_reach(dealt_by_words(flight, word, late), window[1]) for flight, word in zip(flights, words)]
    return [
        order for order in itertools.permutations(range(len(flights)))
        if all(
            gap_of_reaches(reaches[upper], reaches[lower], window) >= miss
            for upper, lower in itertools.combinations(order, 2))
    ]


def is_dealing(flights, window, late, miss, paper):
    if type(paper) is not tuple or len(paper) != 4 or paper[0] != "dealt":
        return False
    told, words, order, tables = paper
    if words not in all_words(len(flights)) or type(order) is not tuple or type(tables) is not tuple:
        return False
    if not all(is_number(place) for place in order) or sorted(order) != list(range(len(flights))):
        return False
    if len(tables) != len(flights):
        return False
    for flight, word, rows in zip(flights, words, tables):
        if not stands_by_words(dealt_by_words(flight, word, late), rows, window[1]):
            return False
    reaches = [reach_by_words(rows) for rows in tables]
    return all(
        gap_of_reaches(reaches[upper], reaches[lower], window) >= miss
        for upper, lower in zip(order, order[1:])
    )


def is_none_entry(flights, window, late, miss, entry):
    if type(entry) is not tuple or len(entry) != 6:
        return False
    i, j, word, other, over, under = entry
    if not (is_number(i) and is_number(j) and 0 <= i < j < len(flights)):
        return False
    if word not in DEALT_WORDS or other not in DEALT_WORDS:
        return False
    one, two = dealt_by_words(flights[i], word, late), dealt_by_words(flights[j], other, late)
    return breaks(one, two, window, miss, over) and breaks(two, one, window, miss, under)


def is_no_dealing(flights, window, late, miss, paper):
    if type(paper) is not tuple or len(paper) != 2 or paper[0] != "none" or type(paper[1]) is not tuple:
        return False
    if not all(is_none_entry(flights, window, late, miss, entry) for entry in paper[1]):
        return False
    shown = {entry[:4] for entry in paper[1]}
    return all(
        any((i, j, words[i], words[j]) in shown for i, j in itertools.combinations(range(len(flights)), 2))
        for words in all_words(len(flights))
    )


# Point 12.

def turn_about_by_words(flights, window, held, late):
    staying = room_of_reaches([long_reach(flight, window[1]) for flight in flights], window)
    holding = [dealt_by_words(flight, "hold", held) for flight in flights]
    words, turning = best_by_words(holding, window, late)
    return ("turn", words, turning) if turning > staying else ("stay", staying)


# Point 21.

def is_window_by_words(thing):
    return (
        type(thing) is tuple and len(thing) == 2 and all(is_number(step) and 1 <= step <= 24 for step in thing)
        and thing[0] <= thing[1])


def is_miss_by_words(thing):
    return is_number(thing) and 1 <= thing <= 1000000


def may_be_dealt_words(flights, late):
    if not is_number(late) or not 0 <= late <= 12 or type(flights) is not tuple or len(flights) not in (2, 3, 4):
        return False
    return all(
        is_flight_by_words(flight) and len(flight[3][1]) <= 2 and all(limit <= late for word, limit in flight[3][1])
        for flight in flights)


def holds_by_words(claim, paper):
    if type(claim) is not tuple or len(claim) != 5:
        return False
    if claim[0] in ("parted", "met"):
        name, upper, lower, window, miss = claim
        fits = is_kept if name == "parted" else is_broken
        return (
            is_flight_by_words(upper) and is_flight_by_words(lower) and is_window_by_words(window)
            and is_miss_by_words(miss) and fits(upper, lower, window, miss, paper))
    if claim[0] in ("parting", "no parting"):
        name, flights, window, late, miss = claim
        fits = is_dealing if name == "parting" else is_no_dealing
        return (
            may_be_dealt_words(flights, late) and is_window_by_words(window) and is_miss_by_words(miss)
            and fits(flights, window, late, miss, paper))
    return False
