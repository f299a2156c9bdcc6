"""Points 10 and 11, and points 2 and 3 as far as they speak of several craft."""

import itertools
import random
import unittest

from climborsink.courses import is_flight
from climborsink.dealing import WORDS, best, dealt, order_of, parting, room
from climborsink.errors import NoOrder
from tests.oracle import (
    all_words, best_by_words, dealt_by_words, gap_by_motions, is_dealing, is_no_dealing,
    orders_by_words, room_by_words, rooms_by_words)
from tests.samples import large_flights, misses_around, random_flight, small_flights

MAKE = (9, 4, 2, 5)
LEVEL = (MAKE, 0, 0, ("hold", ()))


def levels(*heights):
    return tuple((MAKE, height, 0, ("hold", ())) for height in heights)


def groups(seed, many, span, large):
    """Two, three and four flights of at most two turns, with a window and a late for each group."""
    chance = random.Random(seed)
    found = []
    for at in range(many):
        count = 2 + at % 3
        if large:
            flights = large_flights(seed=chance.random(), many=count, turns=(0, 1, 2), span=span)
        else:
            flights = small_flights(seed=chance.random(), many=count, turns=(0, 1, 2), span=span)
        limits = [limit for flight in flights for word, limit in flight[3][1]]
        late = chance.randint(max(limits, default=0), 12)
        first = chance.randint(1, 24 if large else 4)
        last = chance.randint(first, 24 if large else 4)
        found.append((tuple(flights), (first, last), late))
    return found


SMALL_GROUPS = groups(seed=41, many=18, span=15, large=False)
LARGE_GROUPS = groups(seed=42, many=24, span=400, large=True)
# Flights of two turns with the greatest limits, through the longest window.
LONGEST = (
    tuple(
        ((9, 4, 1, 5), height, 3, ("free", (("climb", 12), ("free", 12))))
        for height in (0, 1500, -1500, 700)),
    (1, 24), 12)


class Dealt(unittest.TestCase):
    def test_words(self):
        self.assertEqual(WORDS, ("climb", "hold", "sink"))
        self.assertIs(type(WORDS), tuple)

    def test_late_left_out(self):
        self.assertEqual(dealt(LEVEL, "climb"), (MAKE, 0, 0, ("hold", (("climb", 2),))))

    def test_late_told(self):
        for flights, window, late in SMALL_GROUPS + LARGE_GROUPS:
            for flight in flights:
                for word in WORDS:
                    told = dealt(flight, word, late=late)
                    self.assertEqual(told, dealt_by_words(flight, word, late))
                    self.assertIs(is_flight(told), True)

    def test_behind_two_turns(self):
        flight = (MAKE, 5, 1, ("free", (("climb", 1), ("hold", 3))))
        self.assertEqual(
            dealt(flight, "sink", late=3), (MAKE, 5, 1, ("free", (("climb", 1), ("hold", 3), ("sink", 3)))))

    def test_late_0_and_12(self):
        self.assertEqual(dealt(LEVEL, "sink", late=0)[3], ("hold", (("sink", 0),)))
        self.assertEqual(dealt(LEVEL, "sink", late=12)[3], ("hold", (("sink", 12),)))

    def test_by_names_alone(self):
        self.assertEqual(dealt(late=4, word="hold", flight=LEVEL)[3], ("hold", (("hold", 4),)))
        with self.assertRaises(TypeError):
            dealt(LEVEL, "hold", 4)


class Room(unittest.TestCase):
    def test_against_all_motions_of_small_flights(self):
        chance = random.Random(43)
        for flights, window, late in SMALL_GROUPS[:12]:
            words = tuple(chance.choice(WORDS) for flight in flights)
            told = [dealt_by_words(flight, word, late) for flight, word in zip(flights, words)]
            due = min(
                max(gap_by_motions(one, other, window), gap_by_motions(other, one, window))
                for one, other in itertools.combinations(told, 2))
            self.assertEqual(room(flights, words, window=window, late=late), due)

    def test_large_flights(self):
        chance = random.Random(44)
        for flights, window, late in LARGE_GROUPS + [LONGEST]:
            for at in range(3):
                words = tuple(chance.choice(WORDS) for flight in flights)
                self.assertEqual(
                    room(flights, words, window=window, late=late), room_by_words(flights, words, window, late))

    def test_words_all_alike(self):
        for flights, window, late in LARGE_GROUPS[:6]:
            for word in WORDS:
                words = (word,) * len(flights)
                self.assertEqual(
                    room(flights, words, window=window, late=late), room_by_words(flights, words, window, late))

    def test_late_left_out(self):
        flights = levels(0, 30)
        for words in all_words(2):
            told = room(flights, words, window=(9, 9))
            self.assertEqual(told, room(flights, words, window=(9, 9), late=2))
            self.assertEqual(told, room_by_words(flights, words, (9, 9), 2))
        told = [room(flights, ("sink", "climb"), window=(9, 9), late=late) for late in (1, 2, 3)]
        self.assertEqual(told, sorted(set(told), reverse=True))

    def test_either_may_be_above(self):
        for heights in ((0, 100), (100, 0), (0, 100, 200), (200, 0, 100), (0, 300, 200, 100)):
            flights = levels(*heights)
            self.assertEqual(room(flights, ("hold",) * len(flights), window=(1, 24)), 100)

    def test_the_nearest_two_count(self):
        self.assertEqual(room(levels(0, 500, 507, 90), ("hold",) * 4, window=(1, 5)), 7)
        self.assertEqual(room(levels(90, 0, 500, 97), ("hold",) * 4, window=(1, 5)), 7)

    def test_the_same_one_is_above_at_each_step(self):
        # They change sides in the window: at each step one is far above, but not the same one.
        one = ((9, 4, 4, 9), 0, 9, ("climb", ()))
        other = ((9, 4, 4, 9), 50, -9, ("sink", ()))
        flights, words = (one, other), ("climb", "sink")
        self.assertGreater(room(flights, words, window=(1, 1), late=0), 0)
        self.assertGreater(room(flights, words, window=(5, 9), late=0), 0)
        self.assertLess(room(flights, words, window=(1, 9), late=0), 0)

    def test_heights_at_nine_figures(self):
        flights = levels(999999999, -999999999)
        self.assertEqual(room(flights, ("hold", "hold"), window=(1, 24)), 1999999998)

    def test_by_names_alone(self):
        self.assertEqual(room(late=1, window=(1, 2), words=("hold", "hold"), flights=levels(0, 9)), 9)
        with self.assertRaises(TypeError):
            room(levels(0, 9), ("hold", "hold"), (1, 2))


class Best(unittest.TestCase):
    def look(self, flights, window, late):
        told = best(flights, window=window, late=late)
        self.assertIs(type(told), tuple)
        self.assertEqual(told, best_by_words(flights, window, late), (flights, window, late))
        self.assertEqual(room(flights, told[0], window=window, late=late), told[1])

    def test_small_flights(self):
        for group in SMALL_GROUPS:
            self.look(*group)

    def test_large_flights(self):
        for group in LARGE_GROUPS + [LONGEST]:
            self.look(*group)

    def test_ties_of_which_the_first_stands(self):
        tied = 0
        for flights, window, late in [(levels(0, 0), (1, 1), 12), (levels(0, 0, 0), (1, 1), 1)] + SMALL_GROUPS:
            rooms = rooms_by_words(flights, window, late)
            tied += list(rooms.values()).count(max(rooms.values())) > 1
            self.look(flights, window, late)
        self.assertGreater(tied, 4)

    def test_flights_alike(self):
        for many in (2, 3, 4):
            for flight in (LEVEL, (MAKE, 7, -9, ("free", (("climb", 1), ("sink", 2))))):
                self.look((flight,) * many, (3, 20), 2)

    def test_flights_far_apart(self):
        self.look(levels(0, 999999999, -999999999), (1, 24), 12)
        self.look(levels(400000, -400000, 0, 800000), (1, 12), 5)

    def test_late_left_out(self):
        flights = levels(0, 3)
        self.assertEqual(best(flights, window=(9, 9)), best_by_words(flights, (9, 9), 2))
        for late in (1, 3):
            self.assertNotEqual(best(flights, window=(9, 9)), best(flights, window=(9, 9), late=late))

    def test_example(self):
        flights = levels(10, 0)
        # They stay for two steps at the longest, then they part by 2 + 4 + 5 or more each.
        self.assertEqual(best(flights, window=(5, 5)), (("climb", "sink"), 10 + 2 * (2 + 4 + 5)))
        self.assertEqual(best(flights[::-1], window=(5, 5)), (("sink", "climb"), 10 + 2 * (2 + 4 + 5)))

    def test_by_names_alone(self):
        self.assertEqual(best(late=0, window=(1, 1), flights=levels(0, 9)), best_by_words(levels(0, 9), (1, 1), 0))
        with self.assertRaises(TypeError):
            best(levels(0, 9), (1, 1))


class OrderOf(unittest.TestCase):
    def look(self, flights, words, window, late):
        due = room_by_words(flights, words, window, late)
        if due < 1:
            with self.assertRaises(NoOrder) as caught:
                order_of(flights, words, window=window, late=late)
            self.assertEqual(caught.exception.apart, due)
            return False
        told = order_of(flights, words, window=window, late=late)
        self.assertIs(type(told), tuple)
        self.assertEqual([told], orders_by_words(flights, words, window, late, 1))
        self.assertEqual([told], orders_by_words(flights, words, window, late, due))
        return True

    def test_small_and_large_flights(self):
        chance = random.Random(45)
        told = []
        for flights, window, late in SMALL_GROUPS + LARGE_GROUPS + [LONGEST]:
            told.append(self.look(flights, best_by_words(flights, window, late)[0], window, late))
            told.append(self.look(flights, tuple(chance.choice(WORDS) for flight in flights), window, late))
        self.assertGreater(told.count(True), 15)
        self.assertGreater(told.count(False), 15)

    def test_all_orders(self):
        for many in (2, 3, 4):
            for heights in itertools.permutations((-1000, 0, 1000, 2000)[:many]):
                words = ("climb", "hold", "sink", "climb")[:many]
                due = tuple(sorted(range(many), key=lambda place: -heights[place]))
                self.assertEqual(order_of(levels(*heights), words, window=(1, 24)), due)

    def test_no_order_and_the_room_at_its_bound(self):
        for height, due in ((2, 2), (1, 1), (0, 0), (-1, 1), (-2, 2)):
            self.assertIs(self.look(levels(0, height), ("hold", "hold"), (1, 5), 2), due >= 1)
        with self.assertRaises(NoOrder) as caught:
            order_of(levels(5, 5), ("hold", "hold"), window=(1, 5))
        self.assertEqual(caught.exception.apart, 0)
        with self.assertRaises(NoOrder) as caught:
            order_of(levels(5, 5, 900), ("climb", "climb", "hold"), window=(4, 4))
        self.assertEqual(
            caught.exception.apart, room_by_words(levels(5, 5, 900), ("climb", "climb", "hold"), (4, 4), 2))
        self.assertLess(caught.exception.apart, 0)

    def test_an_order_that_is_not_that_of_the_heights_at_first(self):
        # Behind step 4 those that were above are below.
        flights = (((9, 4, 4, 9), 0, 9, ("climb", ())), ((9, 4, 4, 9), 20, -9, ("sink", ())))
        self.assertEqual(order_of(flights, ("climb", "sink"), window=(4, 24), late=0), (0, 1))

    def test_late_left_out(self):
        # By the step of the window they are parted where they hear in time alone.
        flights, words = levels(0, 0), ("climb", "sink")
        self.assertEqual(order_of(flights, words, window=(3, 3)), (0, 1))
        for late in (0, 2, 3):
            self.look(flights, words, (3, 3), late)
        with self.assertRaises(NoOrder) as caught:
            order_of(flights, words, window=(2, 2))
        self.assertEqual(caught.exception.apart, 0)

    def test_by_names_alone(self):
        self.assertEqual(order_of(late=1, window=(1, 2), words=("hold", "hold"), flights=levels(0, 9)), (1, 0))
        with self.assertRaises(TypeError):
            order_of(levels(0, 9), ("hold", "hold"), (1, 2))


class Parting(unittest.TestCase):
    def look(self, flights, window, late, miss, due):
        """Just one of two is told: dealt where the best room isn't below the miss."""
        told = parting(flights, window=window, late=late, miss=miss)
        fits = is_dealing if due >= miss else is_no_dealing
        self.assertTrue(fits(flights, window, late, miss, told), (flights, window, late, miss, told[:3]))
        return told[0]

    def look_around(self, found):
        told = []
        for flights, window, late in found:
            due = best_by_words(flights, window, late)[1]
            told += [self.look(flights, window, late, miss, due) for miss in misses_around(due)]
        return told

    def test_small_flights_around_their_rooms(self):
        told = self.look_around(SMALL_GROUPS)
        self.assertGreater(told.count("dealt"), 10)
        self.assertGreater(told.count("none"), 20)

    def test_large_flights_around_their_rooms(self):
        told = self.look_around(LARGE_GROUPS + [LONGEST])
        self.assertGreater(told.count("dealt"), 20)
        self.assertGreater(told.count("none"), 30)

    def test_flights_alike(self):
        self.look_around([((LEVEL,) * many, window, 2) for many in (2, 3, 4) for window in ((3, 20), (20, 24))])

    def test_flights_far_apart(self):
        told = self.look_around([(levels(0, 999999999, -999999999), (1, 24), 12)])
        self.assertEqual(told, ["dealt", "dealt"])
        told = self.look_around([(levels(0, 500000, -500000, 1500000), (1, 24), 12)])
        self.assertEqual(told, ["dealt", "dealt", "dealt", "none", "none"])

    def test_the_words_are_dealt_behind_the_turns(self):
        chance = random.Random(46)
        makes = (MAKE, (3, 1, 1, 2))
        for at in range(4):
            flights = tuple(random_flight(chance, makes, 2, range(0, 3), height) for height in (0, 60, 120))
            self.look_around([(flights, (2, 6), 2), (flights, (6, 6), 3)])

    def test_late_left_out(self):
        for flights, window, due in ((levels(0, 0), (3, 3), "dealt"), (levels(0, 0), (2, 2), "none")):
            told = parting(flights, window=window)
            self.assertEqual(told[0], due)
            self.assertEqual(told, parting(flights, window=window, late=2))
        self.assertEqual(self.look(levels(0, 0), (3, 3), 3, 1, 0), "none")

    def test_the_miss_left_out(self):
        for height, due in ((1, "dealt"), (0, "none")):
            flights = ((MAKE, height, 0, ("hold", ())), ((1, 1, 1, 1), 0, 0, ("hold", ())))
            told = parting(flights, window=(1, 1), late=12)
            self.assertEqual(told[0], due)
            self.assertEqual(told, parting(flights, window=(1, 1), late=12, miss=1))

    def test_the_same_whatever_was_asked_in_between(self):
        flights, window, late = LARGE_GROUPS[2]
        first = parting(flights, window=window, late=late)
        best(flights[::-1], window=window, late=late)
        room(flights, ("hold",) * len(flights), window=window, late=late)
        self.assertEqual(parting(flights, window=window, late=late), first)

    def test_by_names_alone(self):
        told = parting(miss=2, late=1, window=(1, 2), flights=levels(0, 90))
        self.assertTrue(is_dealing(levels(0, 90), (1, 2), 1, 2, told))
        with self.assertRaises(TypeError):
            parting(levels(0, 90), (1, 2))


if __name__ == "__main__":
    unittest.main()
