"""Point 21, and point 3 as far as it speaks of papers, whoever wrote them."""

import itertools
import random
import time
import unittest

from climborsink.dealing import best, parting
from climborsink.looker import holds
from climborsink.pairs import gap, shown
from climborsink.sky import Sky
from climborsink.tables import table
from tests.oracle import FOUR_WORDS, holds_by_words
from tests.samples import GREATEST_MISS, large_flights, misses_around, small_flights
from tests.things import OTHER_THINGS, WHOLE_NUMBERS, put_otherwise

PAIR_CLAIMS = ("parted", "met")
GROUP_CLAIMS = ("parting", "no parting")
SMALL = (1, 1, 1, 1)
THINGS = (None, True, False, 0, 1, 2, -1, "", "kept", "hold", (), [], (0,), (0, 0), [0])


def pair_papers(seed, many, large=False):
    """(upper, lower, window, miss, paper) around the gaps of flights."""
    chance = random.Random(seed)
    of = large_flights if large else small_flights
    found = []
    for at in range(many):
        upper, lower = of(seed=chance.random(), many=2, span=40 if large else 12)
        first = chance.randint(1, 24 if large else 3)
        window = (first, chance.randint(first, 24 if large else 3))
        for miss in misses_around(gap(upper, lower, window=window)):
            found.append((upper, lower, window, miss, shown(upper, lower, window=window, miss=miss)))
    return found


def group_papers(seed, many, large=False):
    """(flights, window, late, miss, paper) around the rooms of two, three and four flights."""
    chance = random.Random(seed)
    of = large_flights if large else small_flights
    found = []
    for at in range(many):
        flights = tuple(of(seed=chance.random(), many=2 + at % 3, turns=(0, 1, 2), span=500 if large else 40))
        late = chance.randint(max([limit for flight in flights for word, limit in flight[3][1]], default=0), 12)
        first = chance.randint(1, 24 if large else 3)
        window = (first, chance.randint(first, 24 if large else 3))
        for miss in misses_around(best(flights, window=window, late=late)[1]):
            found.append((flights, window, late, miss, parting(flights, window=window, late=late, miss=miss)))
    return found


def replaced(whole, at, part):
    return whole[:at] + (part,) + whole[at + 1:]


def bent_tables(rows):
    """Rows with one end or entry less, one end more, at each row: those that stand and those that don't."""
    for at, row in enumerate(rows):
        for place, (mode, rate, least, greatest) in enumerate(row):
            yield replaced(rows, at, row[:place] + row[place + 1:])
            yield replaced(rows, at, row[:place] + row[place:place + 1] + row[place:])
            for bent in (
                    (mode, rate, least + 1, greatest), (mode, rate, least, greatest - 1),
                    (mode, rate, least - 1, greatest), (mode, rate, least, greatest + 1),
                    (mode + 1, rate, least, greatest), (mode, rate + 1, least, greatest),
                    (mode, rate - 1, least, greatest), (mode, rate, greatest, least)):
                yield replaced(rows, at, replaced(row, place, bent))
        yield replaced(rows, at, row[::-1])
        yield rows[:at] + rows[at + 1:]
        yield rows[:at] + (row,) + rows[at:]


def widened(rows, by):
    return tuple(tuple((mode, rate, least - by, greatest + by) for mode, rate, least, greatest in row) for row in rows)


class LookerTest(unittest.TestCase):
    def look(self, claim, paper):
        told = holds(claim, paper)
        self.assertIs(told, holds_by_words(claim, paper), (claim, paper))
        return told


class Pairs(LookerTest):
    def test_the_paper_that_is_due(self):
        told = []
        for upper, lower, window, miss, paper in pair_papers(131, 30) + pair_papers(132, 16, large=True):
            due = "parted" if paper[0] == "kept" else "met"
            told.append(due)
            for name in PAIR_CLAIMS + GROUP_CLAIMS + ("kept", "broken", "dealt", ""):
                self.assertIs(holds((name, upper, lower, window, miss), paper), name == due)
        self.assertGreater(min(told.count("parted"), told.count("met")), 20)

    def test_the_other_way_about(self):
        for upper, lower, window, miss, paper in pair_papers(133, 20):
            for name in PAIR_CLAIMS:
                self.look((name, lower, upper, window, miss), paper)
                self.look((name, upper, lower, window, miss), paper[:-2] + paper[:-3:-1])
                self.look((name, upper, upper, window, miss), paper)

    def test_never_both(self):
        for upper, lower, window, miss, paper in pair_papers(134, 20):
            kept = ("kept", table(upper, steps=window[1]), table(lower, steps=window[1]))
            self.assertIs(self.look(("parted", upper, lower, window, miss), kept), paper[0] == "kept")

    def test_windows_and_misses_one_off(self):
        for upper, lower, window, miss, paper in pair_papers(135, 16) + pair_papers(136, 6, large=True):
            first, last = window
            for other in ((first - 1, last), (first + 1, last), (first, last + 1), (first, last - 1), (last, first)):
                for name in PAIR_CLAIMS:
                    self.look((name, upper, lower, other, miss), paper)
            for other in (miss - 1, miss + 1, 0, -1, GREATEST_MISS, GREATEST_MISS + 1):
                for name in PAIR_CLAIMS:
                    self.look((name, upper, lower, window, other), paper)

    def test_windows_at_their_bounds(self):
        high, low = (SMALL, 900, 0, ("hold", ())), (SMALL, 0, 0, ("hold", ()))
        for window in itertools.product((-1, 0, 1, 2, 23, 24, 25), repeat=2):
            last = min(max(window[1], 0), 24)
            paper = ("kept", table(high, steps=last), table(low, steps=last))
            due = 1 <= window[0] <= window[1] <= 24
            self.assertIs(self.look(("parted", high, low, window, 900), paper), due)
            self.assertIs(self.look(("parted", high, low, window, 901), paper), False)
            self.assertIs(self.look(("parted", high, low, list(window), 900), paper), False)
            paper = ("broken", last, (0,) * last, (0,) * last)
            self.assertIs(self.look(("met", low, high, window, 1), paper), due)

    def test_misses_at_their_bounds(self):
        high, low = (SMALL, 2000000, 0, ("hold", ())), (SMALL, 0, 0, ("hold", ()))
        kept = ("kept", table(high, steps=2), table(low, steps=2))
        for miss in (-1, 0, 1, 2, GREATEST_MISS, GREATEST_MISS + 1, True, None, "1", (1,)):
            due = type(miss) is int and 1 <= miss <= GREATEST_MISS
            self.assertIs(self.look(("parted", high, low, (1, 2), miss), kept), due)
            self.assertIs(self.look(("met", low, high, (1, 2), miss), ("broken", 1, (0,), (0,))), due)

    def test_tables_bent_at_any_row(self):
        told = []
        for upper, lower, window, miss, paper in pair_papers(137, 14):
            if paper[0] == "kept":
                claim = ("parted", upper, lower, window, miss)
                told += [self.look(claim, ("kept", bent, paper[2])) for bent in bent_tables(paper[1])]
                told += [self.look(claim, ("kept", paper[1], bent)) for bent in bent_tables(paper[2])]
        self.assertGreater(told.count(True), 50)
        self.assertGreater(told.count(False), 200)

    def test_long_tables_bent_at_late_rows_too(self):
        upper = ((3, 2, 1, 2), 300, 0, ("free", (("climb", 9),)))
        lower = ((2, 1, 1, 1), 0, 0, ("sink", (("free", 12),)))
        window = (3, 24)
        miss = gap(upper, lower, window=window)
        paper = shown(upper, lower, window=window, miss=miss)
        told = []
        for number, bent in enumerate(bent_tables(paper[1])):
            if number % 41 == 0:
                told.append(self.look(("parted", upper, lower, window, miss), ("kept", bent, paper[2])))
        self.assertIn(False, told)

    def test_wider_tables(self):
        for upper, lower, window, miss, paper in pair_papers(138, 10):
            if paper[0] == "kept":
                for by in (0, 1, 2, 50):
                    for name in PAIR_CLAIMS:
                        claim = (name, upper, lower, window, max(miss - by, 1))
                        self.look(claim, ("kept", widened(paper[1], by), paper[2]))
                        self.look(claim, ("kept", paper[1], widened(paper[2], by)))
                        self.look(claim, ("kept", widened(paper[1], -by), paper[2]))

    def test_wider_tables_with_room_enough(self):
        high, low = (SMALL, 100, 0, ("free", ())), (SMALL, 0, 0, ("free", (("sink", 1),)))
        window, miss = (1, 3), gap(high, low, window=(1, 3))
        rows, other = table(high, steps=3), table(low, steps=3)
        for by, due in ((0, True), (1, True), (2, True), (3, False)):
            claim = ("parted", high, low, window, miss - 2)
            self.assertIs(self.look(claim, ("kept", widened(rows, by), other)), due)
            self.assertIs(self.look(claim, ("kept", rows, widened(other, by))), due)

    def test_motions_bent_at_any_place(self):
        told = []
        for upper, lower, window, miss, paper in pair_papers(139, 20) + pair_papers(140, 8, large=True):
            if paper[0] != "broken":
                continue
            claim = ("met", upper, lower, window, miss)
            for which in (2, 3):
                motion = paper[which]
                for at, rate in enumerate(motion):
                    for other in (rate - 1, rate + 1, -rate, None, True, (rate,), str(rate)):
                        told.append(self.look(claim, replaced(paper, which, replaced(motion, at, other))))
                for other in (motion[1:], motion[:-1], motion + (0,), motion[::-1], list(motion), (motion,)):
                    told.append(self.look(claim, replaced(paper, which, other)))
            for step in (paper[1] - 1, paper[1] + 1, 0, window[0], window[1], True, None, (paper[1],)):
                told.append(self.look(claim, replaced(paper, 1, step)))
                # Motions of so many steps, whatever they lead to.
                if type(step) is int:
                    told.append(self.look(claim, ("broken", step, paper[2][:step], paper[3][:step])))
        self.assertGreater(told.count(True), 20)
        self.assertGreater(told.count(False), 200)

    def test_any_motions_by_which_it_is_broken(self):
        upper, lower = ((2, 2, 1, 1), 3, 0, ("free", ())), ((2, 2, 1, 1), 0, 0, ("free", (("climb", 1),)))
        told = []
        for first in itertools.product(range(-2, 3), repeat=2):
            for second in itertools.product(range(-2, 3), repeat=2):
                told.append(self.look(("met", upper, lower, (1, 2), 2), ("broken", 2, first, second)))
        self.assertGreater(told.count(True), 50)
        self.assertGreater(told.count(False), 50)

    def test_put_otherwise_at_any_place(self):
        for upper, lower, window, miss, paper in pair_papers(141, 4):
            claim = ("parted" if paper[0] == "kept" else "met", upper, lower, window, miss)
            for thing in THINGS:
                for bent in put_otherwise(paper, thing):
                    self.look(claim, bent)
                for bent in put_otherwise(claim, thing):
                    self.look(bent, paper)

    def test_flights_with_three_turns(self):
        turns = (("climb", 0), ("hold", 1), ("sink", 12))
        upper, lower = (SMALL, 50, 0, ("free", turns)), (SMALL, 0, 0, ("free", turns))
        paper = shown(upper, lower, window=(1, 3), miss=1)
        self.assertIs(self.look(("parted", upper, lower, (1, 3), 1), paper), True)
        more = (SMALL, 50, 0, ("free", turns + (("hold", 12),)))
        self.assertIs(self.look(("parted", more, lower, (1, 3), 1), paper), False)

    def test_lists_in_the_place_of_tuples(self):
        high, low = (SMALL, 50, 0, ("free", (("sink", 1),))), (SMALL, 0, 0, ("free", ()))
        claim = ("parted", high, low, (1, 2), 1)
        paper = shown(high, low, window=(1, 2))
        met = ("met", low, high, (1, 2), 1)
        broken = shown(low, high, window=(1, 2))
        for told, shows in ((claim, paper), (met, broken)):
            self.assertIs(self.look(told, shows), True)
            for bent in self.with_a_list(told):
                self.assertIs(self.look(bent, shows), False)
            for bent in self.with_a_list(shows):
                self.assertIs(self.look(told, bent), False)

    def with_a_list(self, thing):
        """The thing with one of its tuples, however deep, as a list."""
        found = [list(thing)]
        for at, part in enumerate(thing):
            if type(part) is tuple:
                found += [replaced(thing, at, bent) for bent in self.with_a_list(part)]
        return found


class Groups(LookerTest):
    def test_the_paper_that_is_due(self):
        told = []
        for flights, window, late, miss, paper in group_papers(151, 18) + group_papers(152, 9, large=True):
            due = "parting" if paper[0] == "dealt" else "no parting"
            told.append(due)
            for name in PAIR_CLAIMS + GROUP_CLAIMS + ("dealt", "none", "no  parting", ""):
                self.assertIs(holds((name, flights, window, late, miss), paper), name == due)
        self.assertGreater(min(told.count("parting"), told.count("no parting")), 15)

    def test_windows_late_and_misses_one_off(self):
        for flights, window, late, miss, paper in group_papers(153, 9):
            first, last = window
            for name in GROUP_CLAIMS:
                for other in ((first - 1, last), (first + 1, last), (first, last + 1), (first, last - 1), (25, 25)):
                    self.look((name, flights, other, late, miss), paper)
                for other in (late - 1, late + 1, -1, 0, 12, 13, True, None):
                    self.look((name, flights, window, other, miss), paper)
                for other in (miss - 1, miss + 1, 0, GREATEST_MISS, GREATEST_MISS + 1, True):
                    self.look((name, flights, window, late, other), paper)

    def test_late_at_its_bounds(self):
        flights = tuple((SMALL, height, 0, ("hold", ())) for height in (0, 90))
        for late in (-1, 0, 1, 11, 12, 13, True, False, None, "2", (2,)):
            due = type(late) is int and 0 <= late <= 12
            paper = parting(flights, window=(1, 2), late=late if due else 2)
            self.assertIs(self.look(("parting", flights, (1, 2), late, 1), paper), due)

    def test_late_below_a_limit(self):
        for limit in (1, 5, 12):
            flights = ((SMALL, 0, 0, ("hold", ())), (SMALL, 90, 0, ("hold", (("hold", 0), ("hold", limit)))))
            for late in range(13):
                for name, miss in (("parting", 1), ("no parting", 1000)):
                    paper = parting(flights, window=(1, 2), late=late, miss=miss)
                    self.assertIs(self.look((name, flights, (1, 2), late, miss), paper), late >= limit)

    def test_flights_with_more_turns_than_may_be_dealt(self):
        for turns in range(5):
            course = ("hold", (("hold", 1),) * turns)
            flights = ((SMALL, 0, 0, ("hold", ())), (SMALL, 90, 0, course))
            for name, miss in (("parting", 1), ("no parting", 1000)):
                paper = parting(flights, window=(1, 2), late=1, miss=miss)
                self.assertIs(self.look((name, flights, (1, 2), 1, miss), paper), turns <= 2)

    def test_too_few_and_too_many_flights(self):
        for many in range(2, 7):
            flights = tuple((SMALL, 100 * place, 0, ("hold", ())) for place in range(many))
            paper = parting(flights, window=(1, 1))
            self.assertIs(self.look(("parting", flights, (1, 1), 2, 1), paper), many <= 4)
            if many <= 4:
                for fewer in range(many):
                    self.look(("parting", flights[:fewer], (1, 1), 2, 1), paper)
        for name, paper in (("parting", ("dealt", (), (), ())), ("no parting", ("none", ()))):
            self.assertIs(self.look((name, (), (1, 1), 2, 1), paper), False)

    def test_orders_turned_about(self):
        for many in (2, 3, 4):
            heights = (0, 300, 100, 200)[:many]
            flights = tuple((SMALL, height, 0, ("hold", ())) for height in heights)
            told, words, order, tables = parting(flights, window=(1, 3), miss=50)
            claim = ("parting", flights, (1, 3), 2, 50)
            for other in itertools.permutations(range(many)):
                self.assertIs(self.look(claim, (told, words, other, tables)), other == order)
            for other in itertools.product(range(-1, many + 1), repeat=many):
                if other != order:
                    self.assertIs(holds(claim, (told, words, other, tables)), False)
            for other in (
                    order[1:], order + (0,), order * 2, (), list(order), tuple(place == 1 or place for place in order),
                    tuple(str(place) for place in order), None):
                self.assertIs(self.look(claim, (told, words, other, tables)), False)

    def test_truths_in_an_order(self):
        flights = tuple((SMALL, height, 0, ("hold", ())) for height in (0, 300))
        told, words, order, tables = parting(flights, window=(1, 3))
        for other in ((1, False), (True, 0), (True, False)):
            self.assertEqual(other, order)
            self.assertIs(self.look(("parting", flights, (1, 3), 2, 1), (told, words, other, tables)), False)

    def test_any_words_by_which_they_are_parted(self):
        flights = ((SMALL, 0, 0, ("hold", ())), (SMALL, 20, 0, ("hold", ())))
        claim, told = ("parting", flights, (4, 5), 1, 18), []
        for words in itertools.product(FOUR_WORDS, repeat=2):
            rows = tuple(
                table((*flight[:3], ("hold", ((word, 1),))), steps=5) for flight, word in zip(flights, words))
            told.append(self.look(claim, ("dealt", words, (1, 0), rows)))
            self.look(claim, ("dealt", ("sink", "climb"), (1, 0), rows))
            self.look(claim, ("dealt", words[::-1], (1, 0), rows))
            self.look(claim, ("dealt", list(words), (1, 0), rows))
        self.assertGreater(told.count(True), 2)
        self.assertGreater(told.count(False), 8)

    def test_tables_bent_at_any_row(self):
        told = []
        for flights, window, late, miss, paper in group_papers(154, 6):
            if paper[0] == "dealt":
                claim, tables = ("parting", flights, window, late, miss), paper[3]
                for place, rows in enumerate(tables):
                    for number, bent in enumerate(bent_tables(rows)):
                        if number % 5 == 0:
                            told.append(self.look(claim, replaced(paper, 3, replaced(tables, place, bent))))
                for bent in (tables[1:], tables + tables[:1], tables[::-1], list(tables), ()):
                    told.append(self.look(claim, replaced(paper, 3, bent)))
                for by in (1, 2, 9):
                    self.look(claim, replaced(paper, 3, (widened(tables[0], by),) + tables[1:]))
        self.assertGreater(told.count(True), 10)
        self.assertGreater(told.count(False), 50)

    def none_papers(self):
        return [found for found in group_papers(155, 9) if found[4][0] == "none"]

    def test_entries_of_none_left_out_and_doubled(self):
        told = []
        for flights, window, late, miss, paper in self.none_papers():
            claim, entries = ("no parting", flights, window, late, miss), paper[1]
            for at, entry in enumerate(entries):
                told.append(self.look(claim, ("none", entries[:at] + entries[at + 1:])))
                self.assertIs(self.look(claim, ("none", entries + (entry,))), True)
                told.append(self.look(claim, ("none", (entry,))))
            self.assertIs(self.look(claim, ("none", entries[::-1])), True)
            self.assertIs(self.look(claim, ("none", entries * 4)), True)
            self.assertIs(self.look(claim, ("none", ())), False)
        self.assertGreater(told.count(True), 20)
        self.assertGreater(told.count(False), 20)

    def test_just_the_entries_that_are_needed(self):
        # Two places whose words are never parted are enough, whatever the other craft are.
        flights = tuple((SMALL, height, 0, ("free", ())) for height in (0, 0, 5000, -5000))
        paper = parting(flights, window=(1, 1), late=1, miss=1)
        claim = ("no parting", flights, (1, 1), 1, 1)
        enough = tuple(entry for entry in paper[1] if entry[:2] == (0, 1))
        self.assertEqual(len(enough), 9)
        self.assertIs(self.look(claim, ("none", enough)), True)
        for at in range(9):
            self.assertIs(self.look(claim, ("none", enough[:at] + enough[at + 1:])), False)

    def test_entries_of_none_put_otherwise(self):
        told = []
        for flights, window, late, miss, paper in self.none_papers()[:6]:
            claim, entries = ("no parting", flights, window, late, miss), paper[1]
            for at in range(0, len(entries), 5):
                i, j, word, other, over, under = entries[at]
                for bent in (
                        (j, i, word, other, over, under), (i, j, other, word, over, under),
                        (i, j, word, other, under, over), (j, i, other, word, under, over),
                        (i, i, word, other, over, under), (i, j + 1, word, other, over, under),
                        (i - 1, j, word, other, over, under), (i, j, "free", other, over, under),
                        (i, j, word, "free", over, under), (i, j, word, other, over),
                        (i, j, word, other, over, under, under), (i, j, word, other, over[:2], under),
                        (bool(i), j, word, other, over, under), (i, bool(j), word, other, over, under),
                        (i, j, word, other, (over[0] + 1,) + over[1:], under),
                        (i, j, word, other, over, (under[0] - 1,) + under[1:]),
                        (i, j, word, other, (over[0], over[2], over[1]), under)):
                    told.append(self.look(claim, ("none", replaced(entries, at, bent))))
        self.assertGreater(told.count(False), 50)

    def test_entries_exchanged(self):
        for flights, window, late, miss, paper in self.none_papers()[:6]:
            claim, entries = ("no parting", flights, window, late, miss), paper[1]
            for one, other in zip(entries, entries[1:]):
                bent = (*one[:4], *other[4:])
                self.look(claim, ("none", entries + (bent,)))
                self.look(claim, ("none", entries + ((*other[:4], *one[4:]),)))

    def test_put_otherwise_at_any_place(self):
        for flights, window, late, miss, paper in group_papers(156, 3):
            claim = ("parting" if paper[0] == "dealt" else "no parting", flights, window, late, miss)
            for thing in THINGS:
                for bent in put_otherwise(claim, thing):
                    self.look(bent, paper)
                for number, bent in enumerate(put_otherwise(paper, thing)):
                    if number < 40 or number % 29 == 0:
                        self.look(claim, bent)


class AnyThings(LookerTest):
    def test_as_claim_and_as_paper(self):
        upper, lower, window, miss, paper = pair_papers(161, 1)[0]
        flights, group_window, late, group_miss, group_paper = group_papers(162, 1)[0]
        claims = [(name, upper, lower, window, miss) for name in PAIR_CLAIMS]
        claims += [(name, flights, group_window, late, group_miss) for name in GROUP_CLAIMS]
        for thing in OTHER_THINGS + WHOLE_NUMBERS:
            for claim in claims:
                self.assertIs(self.look(claim, thing), False)
                for at in range(5):
                    self.look(replaced(claim, at, thing), paper)
                    self.look(replaced(claim, at, thing), group_paper)
            for shows in (paper, group_paper):
                self.assertIs(self.look(thing, shows), False)
            for name in PAIR_CLAIMS + GROUP_CLAIMS:
                self.assertIs(self.look((name,) + (thing,) * 4, thing), False)
            for told, many in (("kept", 2), ("broken", 3), ("dealt", 3), ("none", 1)):
                for claim in claims:
                    self.look(claim, (told,) + (thing,) * many)

    def test_claims_too_long_and_too_short(self):
        for upper, lower, window, miss, paper in pair_papers(163, 3):
            claim = ("parted" if paper[0] == "kept" else "met", upper, lower, window, miss)
            self.assertIs(self.look(claim, paper), True)
            for bent in (claim[:4], claim + (1,), claim[1:], (claim,), list(claim)):
                self.assertIs(self.look(bent, paper), False)
            for bent in (paper[:-1], paper + (paper[-1],), paper[1:], (paper,), list(paper)):
                self.assertIs(self.look(claim, bent), False)

    def test_flights_that_a_sky_tells_beyond_nine_figures(self):
        sky = Sky(((9, 4, 1, 9),) * 2, (999999999, -999999999), (9, -9))
        for step in range(20):
            sky.move((9, -9))
        upper, lower = sky.flights()
        paper = shown(upper, lower, window=(1, 4), miss=5)
        self.assertIs(self.look(("parted", upper, lower, (1, 4), 5), paper), True)
        paper = parting(sky.flights(), window=(1, 4), miss=5)
        self.assertIs(self.look(("parting", sky.flights(), (1, 4), 2, 5), paper), True)

    def test_by_names(self):
        upper, lower, window, miss, paper = pair_papers(164, 1)[0]
        claim = ("parted" if paper[0] == "kept" else "met", upper, lower, window, miss)
        self.assertIs(holds(paper=paper, claim=claim), True)
        self.assertIs(holds(claim, paper=None), False)

    def test_within_moments(self):
        make = (9, 4, 1, 5)
        flights = tuple(
            (make, height, 3, ("free", (("climb", 12), ("free", 12)))) for height in (0, 1500, -1500, 700))
        for miss in (1, GREATEST_MISS):
            paper = parting(flights, window=(1, 24), late=12, miss=miss)
            name = "parting" if paper[0] == "dealt" else "no parting"
            if name == "no parting":
                paper = ("none", paper[1] * 4)
            began = time.monotonic()
            self.assertIs(holds((name, flights, (1, 24), 12, miss), paper), True)
            self.assertLess(time.monotonic() - began, 5)


if __name__ == "__main__":
    unittest.main()
