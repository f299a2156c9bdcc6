"""Points 8 and 9, and points 2 and 3 as far as they speak of two craft."""

import random
import unittest

from climborsink.courses import is_motion
from climborsink.pairs import MISS, gap, shown
from climborsink.tables import stands
from tests.oracle import gap_by_motions, is_broken, is_kept, long_gap, long_reach
from tests.samples import GREATEST_MISS, large_flights, misses_around, small_flights

LEVEL = ((9, 4, 2, 5), 0, 0, ("hold", ()))


def at_height(flight, height):
    return (flight[0], height, flight[2], flight[3])


def some_windows(chance, last, many):
    windows = []
    for at in range(many):
        first = chance.randint(1, last)
        windows.append((first, chance.randint(first, last)))
    return windows


class Gap(unittest.TestCase):
    def test_against_all_motions_of_small_flights(self):
        chance = random.Random(31)
        flights = small_flights(seed=31, many=40)
        for upper, lower in zip(flights, flights[1:]):
            for window in some_windows(chance, 4, 3):
                self.assertEqual(gap(upper, lower, window=window), gap_by_motions(upper, lower, window))
                self.assertEqual(gap(lower, upper, window=window), gap_by_motions(lower, upper, window))

    def test_up_to_step_24(self):
        chance = random.Random(32)
        flights = large_flights(seed=32, many=16)
        for upper, lower in zip(flights, flights[1:]):
            for window in some_windows(chance, 24, 2) + [(1, 24), (24, 24), (1, 1), (13, 13)]:
                self.assertEqual(gap(upper, lower, window=window), long_gap(upper, lower, window))

    def test_of_one_flight_and_itself(self):
        for flight in small_flights(seed=33, many=10):
            self.assertEqual(gap(flight, flight, window=(1, 4)), gap_by_motions(flight, flight, (1, 4)))
        for flight in large_flights(seed=33, many=5):
            reaches = long_reach(flight, 24)
            self.assertEqual(gap(flight, flight, window=(24, 24)), reaches[24][0] - reaches[24][1])
        self.assertEqual(gap(LEVEL, LEVEL, window=(1, 24)), 0)

    def test_the_least_of_all_steps(self):
        # The upper one can sink for two steps, then it climbs: nearest in the middle of the window.
        upper, lower = ((4, 4, 4, 4), 0, 0, ("sink", (("climb", 2),))), at_height(LEVEL, -50)
        self.assertEqual([gap(upper, lower, window=(k, k)) for k in range(1, 6)], [46, 42, 42, 46, 50])
        for window, due in (((1, 5), 42), ((1, 2), 42), ((3, 5), 42), ((4, 5), 46)):
            self.assertEqual(gap(upper, lower, window=window), due)
        sinker = ((4, 4, 4, 4), 0, 4, ("sink", ()))
        self.assertEqual([gap(at_height(LEVEL, 3), sinker, window=(k, k)) for k in (1, 2, 3)], [3, 7, 11])
        self.assertEqual(gap(at_height(LEVEL, 3), sinker, window=(1, 3)), 3)
        self.assertEqual(gap(at_height(LEVEL, 3), sinker, window=(2, 3)), 7)

    def test_heights_at_nine_figures(self):
        upper, lower = at_height(LEVEL, 999999999), at_height(LEVEL, -999999999)
        self.assertEqual(gap(upper, lower, window=(1, 24)), 1999999998)
        self.assertEqual(gap(lower, upper, window=(1, 24)), -1999999998)
        for one, other in zip(large_flights(seed=34, many=5), large_flights(seed=35, many=5)):
            one, other = at_height(one, -999999999), at_height(other, 999999999)
            self.assertEqual(gap(one, other, window=(2, 24)), long_gap(one, other, (2, 24)))
            self.assertEqual(gap(other, one, window=(2, 24)), long_gap(other, one, (2, 24)))

    def test_step_0_is_not_looked_at(self):
        upper = ((9, 4, 4, 9), 0, 9, ("climb", ()))
        self.assertEqual(gap(upper, LEVEL, window=(1, 24)), 9)

    def test_by_names_alone(self):
        self.assertEqual(gap(window=(1, 3), lower=LEVEL, upper=at_height(LEVEL, 7)), 7)
        with self.assertRaises(TypeError):
            gap(LEVEL, LEVEL, (1, 3))
        with self.assertRaises(TypeError):
            gap(LEVEL, LEVEL)


class Shown(unittest.TestCase):
    def look(self, upper, lower, window, miss, due):
        """Just one of two is told: kept where the gap isn't below the miss."""
        told = shown(upper, lower, window=window, miss=miss)
        fits = is_kept if due >= miss else is_broken
        self.assertTrue(fits(upper, lower, window, miss, told), (upper, lower, window, miss, told))
        self.assertEqual(shown(upper, lower, window=window, miss=miss), told)
        # What was told is handed in again.
        for flight, thing in zip((upper, lower), told[-2:]):
            let_by = stands(flight, thing, steps=window[1]) if told[0] == "kept" else is_motion(flight, thing)
            self.assertIs(let_by, True)
        return told[0]

    def test_small_flights_around_their_gaps(self):
        chance = random.Random(36)
        told = []
        flights = small_flights(seed=36, many=40, span=12)
        for upper, lower in zip(flights, flights[1:]):
            for window in some_windows(chance, 4, 2):
                for one, other in ((upper, lower), (lower, upper)):
                    due = gap_by_motions(one, other, window)
                    told += [self.look(one, other, window, miss, due) for miss in misses_around(due)]
        self.assertGreater(told.count("kept"), 30)
        self.assertGreater(told.count("broken"), 100)

    def test_large_flights_around_their_gaps(self):
        chance = random.Random(37)
        told = []
        flights = large_flights(seed=37, many=14, span=500)
        for upper, lower in zip(flights, flights[1:]):
            for window in some_windows(chance, 24, 1) + [(24, 24), (1, 24)]:
                for one, other in ((upper, lower), (lower, upper)):
                    due = long_gap(one, other, window)
                    told += [self.look(one, other, window, miss, due) for miss in misses_around(due)]
        self.assertGreater(told.count("kept"), 20)
        self.assertGreater(told.count("broken"), 50)

    def test_broken_at_one_step_of_the_window_alone(self):
        # These two are nearest behind step 1, and part then.
        sinker = ((4, 4, 4, 4), 0, 4, ("sink", ()))
        for miss, due in ((3, "kept"), (4, "broken")):
            self.assertEqual(self.look(at_height(LEVEL, 3), sinker, (1, 24), miss, 3), due)
        self.assertEqual(self.look(at_height(LEVEL, 3), sinker, (2, 24), 7, 7), "kept")
        # These are nearest behind step 24.
        climber = ((5, 2, 2, 5), 0, 0, ("climb", ()))
        upper = at_height(LEVEL, 200)
        due = long_gap(upper, climber, (1, 24))
        told = shown(upper, climber, window=(1, 24), miss=due + 1)
        self.assertEqual(told[:2], ("broken", 24))
        self.look(upper, climber, (1, 24), due + 1, due)
        self.look(upper, climber, (1, 24), due, due)

    def test_the_miss_left_out(self):
        self.assertEqual(MISS, 1)
        self.assertIs(type(MISS), int)
        for height, due in ((2, "kept"), (1, "kept"), (0, "broken"), (-1, "broken")):
            upper = at_height(LEVEL, height)
            told = shown(upper, LEVEL, window=(1, 5))
            self.assertEqual(told[0], due, height)
            self.assertEqual(told, shown(upper, LEVEL, window=(1, 5), miss=1))

    def test_of_one_flight_and_itself(self):
        for flight in large_flights(seed=38, many=4) + [LEVEL]:
            for miss in (1, 2, GREATEST_MISS):
                self.assertEqual(self.look(flight, flight, (1, 24), miss, long_gap(flight, flight, (1, 24))), "broken")

    def test_heights_at_nine_figures(self):
        for one, other in zip(large_flights(seed=39, many=4), large_flights(seed=40, many=4)):
            upper, lower = at_height(one, 999999999), at_height(other, -999999999)
            for miss in (1, GREATEST_MISS):
                self.assertEqual(self.look(upper, lower, (1, 24), miss, 10 ** 9), "kept")
                self.assertEqual(self.look(lower, upper, (1, 24), miss, -10 ** 9), "broken")

    def test_the_greatest_miss(self):
        for height, due in ((999999, "broken"), (1000000, "kept"), (1000001, "kept")):
            told = self.look(at_height(LEVEL, height), LEVEL, (3, 7), GREATEST_MISS, height)
            self.assertEqual(told, due)

    def test_tuples_throughout(self):
        kept = shown(at_height(LEVEL, 9), LEVEL, window=(1, 2))
        self.assertEqual(kept, ("kept", (((0, 0, 9, 9),),) * 3, (((0, 0, 0, 0),),) * 3))
        broken = shown(LEVEL, LEVEL, window=(2, 2))
        self.assertEqual(broken, ("broken", 2, (0, 0), (0, 0)))

    def test_by_names_alone(self):
        told = shown(miss=3, window=(1, 2), lower=LEVEL, upper=at_height(LEVEL, 3))
        self.assertEqual(told[0], "kept")
        with self.assertRaises(TypeError):
            shown(LEVEL, LEVEL, (1, 3))
        with self.assertRaises(TypeError):
            shown(LEVEL, LEVEL)


if __name__ == "__main__":
    unittest.main()
