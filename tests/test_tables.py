"""Points 6 and 7, and point 2 as far as it speaks of tables."""

import copy
import random
import unittest

from climborsink.courses import heights_of, is_motion
from climborsink.tables import motion_to, reach, stands, table
from tests.oracle import (
    height_behind, is_flights_motion, long_table, motions_of, rates_of, reach_by_words, stands_by_words,
    table_by_motions)
from tests.samples import large_flights, random_motion, small_flights
from tests.things import OTHER_THINGS, WHOLE_NUMBERS, put_otherwise

MAKE = (2, 2, 1, 1)
# The rows of this one lack some modes and some rates.
FLIGHT = (MAKE, 5, 1, ("climb", (("sink", 2), ("hold", 2))))
STEPS = 4
ROWS = table(FLIGHT, steps=STEPS)
MANY_RATES = ((9, 4, 1, 5), -40, 3, ("free", (("climb", 3), ("hold", 7), ("sink", 12))))


def with_row(rows, at, row):
    return rows[:at] + (tuple(row),) + rows[at + 1:]


def with_entry(rows, at, place, entry):
    row = rows[at]
    return with_row(rows, at, row[:place] + (entry,) + row[place + 1:])


def places_of(rows):
    return [(at, place) for at, row in enumerate(rows) for place in range(len(row))]


def full_rows(flight, rows):
    """The rows with an entry more for each mode and rate that they lack, its least far above its greatest.

    These ends come nearer to one another from row to row, so that each row holds what comes of the one ahead.
    """
    ends = [(mode, rate) for mode in range(len(flight[3][1]) + 1) for rate in rates_of(flight[0])]
    return tuple(
        tuple(sorted(row + tuple(
            (*end, 900 - 9 * at, 9 * at - 900) for end in ends if end not in [entry[:2] for entry in row])))
        for at, row in enumerate(rows)
    )


class Table(unittest.TestCase):
    def test_against_all_motions_of_small_flights(self):
        for flight in small_flights(seed=11, many=60):
            for steps in range(5):
                self.assertEqual(table(flight, steps=steps), table_by_motions(flight, steps), (flight, steps))

    def test_no_step(self):
        for flight in small_flights(seed=12, many=5) + large_flights(seed=12, many=5):
            make, height, rate, course = flight
            self.assertEqual(table(flight, steps=0), (((0, rate, height, height),),))

    def test_24_steps_of_makes_of_many_rates(self):
        for flight in large_flights(seed=13, many=12, span=999999999) + [MANY_RATES]:
            self.assertEqual(table(flight, steps=24), long_table(flight, 24), flight)

    def test_fewer_steps_are_the_first_rows(self):
        for flight in large_flights(seed=14, many=3):
            whole = table(flight, steps=24)
            for steps in range(25):
                self.assertEqual(table(flight, steps=steps), whole[:steps + 1])

    def test_one_step(self):
        flight = ((9, 3, 2, 5), 100, 0, ("climb", (("sink", 1),)))
        self.assertEqual(table(flight, steps=1)[1], (
            (0, 2, 102, 102), (0, 3, 103, 103), (1, -3, 97, 97), (1, -2, 98, 98)))

    def test_limits_0_leave_the_last_mode_alone(self):
        flight = ((9, 3, 2, 5), 100, 0, ("climb", (("free", 0), ("sink", 0), ("hold", 0))))
        self.assertEqual(table(flight, steps=2), (
            ((0, 0, 100, 100),), ((3, 0, 100, 100),), ((3, 0, 100, 100),)))

    def test_heights_at_nine_figures(self):
        for height in (999999999, -999999999):
            flight = ((9, 4, 1, 5), height, 9, ("free", (("sink", 12),)))
            self.assertEqual(table(flight, steps=24), long_table(flight, 24))

    def test_tuples_throughout(self):
        rows = table(MANY_RATES, steps=6)
        self.assertIs(type(rows), tuple)
        for row in rows:
            self.assertIs(type(row), tuple)
            for entry in row:
                self.assertIs(type(entry), tuple)
                self.assertEqual([type(part) for part in entry], [int] * 4)

    def test_the_same_whatever_was_asked_in_between(self):
        first = table(MANY_RATES, steps=10)
        table(FLIGHT, steps=24)
        stands(MANY_RATES, first, steps=10)
        motion_to(MANY_RATES, step=3)
        self.assertEqual(table(MANY_RATES, steps=10), first)

    def test_by_names_alone(self):
        self.assertEqual(table(steps=2, flight=FLIGHT), ROWS[:3])
        with self.assertRaises(TypeError):
            table(FLIGHT, 2)
        with self.assertRaises(TypeError):
            table(FLIGHT)


class Stands(unittest.TestCase):
    def look(self, thing, due, flight=FLIGHT, steps=STEPS):
        self.assertIs(stands_by_words(flight, thing, steps), due, "the test itself")
        before = copy.deepcopy(thing)
        self.assertIs(stands(flight, thing, steps=steps), due, thing)
        self.assertEqual(repr(thing), repr(before))

    def test_the_told_table(self):
        for flight in small_flights(seed=15, many=20):
            for steps in (0, 1, 4):
                self.look(table(flight, steps=steps), True, flight, steps)

    def test_24_steps(self):
        for flight in large_flights(seed=16, many=4, span=999999999) + [MANY_RATES]:
            rows = table(flight, steps=24)
            self.look(rows, True, flight, 24)
            for at, place in random.Random(16).sample(places_of(rows), 12):
                mode, rate, least, greatest = rows[at][place]
                self.look(with_entry(rows, at, place, (mode, rate, least + 1, greatest)), False, flight, 24)
                self.look(with_entry(rows, at, place, (mode, rate, least, greatest - 1)), False, flight, 24)

    def test_for_one_step_more_or_fewer(self):
        for steps in (0, 3, 5, 24):
            self.look(ROWS, False, steps=steps)
        self.look(ROWS[:4], False)
        self.look(ROWS[1:], False)
        self.look(ROWS + ROWS[-1:], False)
        self.look(ROWS[:4], True, steps=3)
        self.look((), False, steps=0)
        self.look(((),), False, steps=0)

    def test_wider_ones(self):
        for by in (1, 7, 100000):
            wider = tuple(
                tuple((mode, rate, least - by, greatest + by) for mode, rate, least, greatest in row) for row in ROWS)
            self.look(wider, True)
        # From some row on alone: what is behind it must hold what comes of it.
        for since in range(STEPS + 1):
            wider = tuple(
                tuple((mode, rate, least - (at >= since), greatest + 2 * (at >= since))
                      for mode, rate, least, greatest in row)
                for at, row in enumerate(ROWS))
            self.look(wider, True)

    def test_one_entry_wider_alone(self):
        for at, place in places_of(ROWS):
            mode, rate, least, greatest = ROWS[at][place]
            # In the last row nothing comes of it, ahead of it something does.
            self.look(with_entry(ROWS, at, place, (mode, rate, least, greatest + 20)), at == STEPS)
            self.look(with_entry(ROWS, at, place, (mode, rate, least - 20, greatest)), at == STEPS)

    def test_one_end_of_one_entry_too_narrow(self):
        for at, place in places_of(ROWS):
            mode, rate, least, greatest = ROWS[at][place]
            for by in (1, 50):
                self.look(with_entry(ROWS, at, place, (mode, rate, least + by, greatest)), False)
                self.look(with_entry(ROWS, at, place, (mode, rate, least, greatest - by)), False)

    def test_one_entry_left_out(self):
        for at, place in places_of(ROWS):
            self.look(with_row(ROWS, at, ROWS[at][:place] + ROWS[at][place + 1:]), False)
        for at in range(STEPS + 1):
            self.look(with_row(ROWS, at, ()), False)

    def test_entries_more_than_needed(self):
        full = full_rows(FLIGHT, ROWS)
        self.assertNotEqual(full[0], ROWS[0])
        self.look(full, True)
        for at in range(STEPS + 1):
            # Entries more in the last rows alone, too: what leads on from them is there.
            self.look(ROWS[:at] + full[at:], True)

    def test_an_entry_more_leads_on_as_each_other(self):
        full = full_rows(FLIGHT, ROWS)
        for at in range(STEPS + 1):
            self.look(with_row(ROWS, at, full[at]), at == STEPS or stands_by_words(
                FLIGHT, with_row(ROWS, at, full[at]), STEPS))
        # Mode 0 at step 4 isn't one of the flight's motions, so without it the table stands, too.
        at, entry = 4, (0, 0, 864, -864)
        self.assertIn(entry, full[at])
        self.look(with_row(full, at, [other for other in full[at] if other != entry]), True)
        # From mode 2 and rate -2 ahead of step 1 one may go to rate -1 and 0, which only so is due in row 1.
        at, entry = 1, (2, -1, 891, -891)
        self.assertIn(entry, full[at])
        self.look(with_row(full, at, [other for other in full[at] if other != entry]), False)

    def test_a_least_above_its_greatest_leads_on_by_its_ends(self):
        rows = (((0, 1, 5, 5), (2, -2, 50, -50)),) + full_rows(FLIGHT, ROWS)[1:]
        place = [entry[:2] for entry in rows[1]].index((2, -1))
        self.look(with_entry(rows, 1, place, (2, -1, 49, -51)), True)
        self.look(with_entry(rows, 1, place, (2, -1, 50, -51)), False)
        self.look(with_entry(rows, 1, place, (2, -1, 49, -52)), False)
        self.look(with_entry(rows, 1, place, (2, -1, -900, 900)), False)

    def test_a_least_above_its_greatest_in_the_last_row(self):
        flight = ((9, 4, 4, 9), 0, 9, ("climb", ()))
        self.look((((0, 9, 0, 0),), ((0, -9, 7, -7), (0, 9, 9, 9))), True, flight, 1)
        self.look((((0, 9, 0, 0),), ((0, -9, 7, -7), (0, 9, 10, 9))), False, flight, 1)

    def test_the_first_row(self):
        flight = (MAKE, 5, 1, ("free", (("free", 3),)))
        for row, due in (
            (((0, 1, 5, 5),), True), (((0, 1, 4, 5),), True), (((0, 1, -9, 9),), True),
            (((0, 1, 6, 6),), False), (((0, 1, 4, 4),), False), (((0, 1, 6, 5),), False), (((0, 1, 5, 4),), False),
            (((1, 1, 5, 5),), False), (((0, 0, 5, 5),), False), ((), False),
            (((0, 0, 0, 0), (0, 1, 5, 5), (1, 1, 5, 5)), True), (((0, 0, 5, 5), (1, 1, 5, 5)), False),
            (((0, 0, 9, 1), (0, 1, 5, 5), (1, -2, 9, 1)), True),
        ):
            self.look((row,), due, flight, 0)

    def test_modes_and_rates_that_are_none_of_the_flights(self):
        for at in range(STEPS + 1):
            for entry in (
                (-1, 0, 0, 0), (3, 0, 0, 0), (0, 3, 0, 0), (0, -3, 0, 0), (2, 3, 0, 0), (9, 9, 9, 9),
                (999999999, 0, 0, 0), (0, -999999999, 0, 0),
            ):
                self.look(with_row(full_rows(FLIGHT, ROWS), at, sorted(full_rows(FLIGHT, ROWS)[at] + (entry,))), False)

    def test_a_mode_and_rate_twice(self):
        for at, place in places_of(ROWS):
            mode, rate, least, greatest = entry = ROWS[at][place]
            for other in (entry, (mode, rate, least - 1, greatest), (mode, rate, least, greatest + 1)):
                self.look(with_row(ROWS, at, sorted(ROWS[at] + (other,))), False)

    def test_rows_that_do_not_rise(self):
        full = full_rows(FLIGHT, ROWS)
        for at, row in enumerate(full):
            self.look(with_row(full, at, row[::-1]), False)
            self.look(with_row(full, at, row[1:] + row[:1]), False)
            for place in range(len(row) - 1):
                swapped = row[:place] + (row[place + 1], row[place]) + row[place + 2:]
                self.look(with_row(full, at, swapped), False)

    def test_truths_in_the_place_of_numbers(self):
        flight = ((1, 1, 1, 1), 0, 0, ("free", (("free", 1),)))
        rows = table(flight, steps=2)
        met = 0
        for at, place in places_of(rows):
            for part in range(4):
                for truth in (True, False):
                    if rows[at][place][part] == truth:
                        met += 1
                        entry = rows[at][place][:part] + (truth,) + rows[at][place][part + 1:]
                        self.look(with_entry(rows, at, place, entry), False, flight, 2)
        self.assertGreater(met, 10)

    def test_lists_in_the_place_of_tuples(self):
        self.look(list(ROWS), False)
        for at, place in places_of(ROWS):
            self.look(ROWS[:at] + (list(ROWS[at]),) + ROWS[at + 1:], False)
            self.look(with_entry(ROWS, at, place, list(ROWS[at][place])), False)

    def test_entries_of_too_few_and_too_many_parts(self):
        for at, place in places_of(ROWS):
            entry = ROWS[at][place]
            for spoilt in (entry[:3], entry[1:], entry + (0,), (entry,), ()):
                self.look(with_entry(ROWS, at, place, spoilt), False)

    def test_things_that_are_no_table(self):
        for thing in OTHER_THINGS + WHOLE_NUMBERS + (FLIGHT, MAKE):
            self.look(thing, False)
            self.look(thing, False, steps=0)
            self.look((thing,), False, steps=0)

    def test_with_each_part_put_otherwise(self):
        rows = ROWS[:3]
        for thing in (None, "climb", (), [], (0,), "0", ((),)) + ((0,) * 20000,):
            for spoilt in put_otherwise(rows, thing):
                self.look(spoilt, False, steps=2)

    def test_numbers_put_otherwise(self):
        rows = ROWS[:3]
        for number in WHOLE_NUMBERS:
            for spoilt in put_otherwise(rows, number):
                self.look(spoilt, stands_by_words(FLIGHT, spoilt, 2), steps=2)

    def test_of_another_flight(self):
        flights = small_flights(seed=17, many=12)
        for flight in flights:
            for other in flights:
                thing = table(other, steps=3)
                self.look(thing, stands_by_words(flight, thing, 3), flight, 3)

    def test_each_motion_lies_within_what_stands(self):
        chance = random.Random(18)
        for flight in large_flights(seed=18, many=6):
            rows = table(flight, steps=24)
            for at in range(10):
                motion, modes = random_motion(chance, flight, 24)
                heights = heights_of(flight, motion)
                for step in range(1, 25):
                    held = [entry for entry in rows[step] if entry[:2] == (modes[step - 1], motion[step - 1])]
                    self.assertEqual(len(held), 1)
                    self.assertTrue(held[0][2] <= heights[step] <= held[0][3])

    def test_by_names_alone(self):
        self.assertIs(stands(steps=STEPS, thing=ROWS, flight=FLIGHT), True)
        with self.assertRaises(TypeError):
            stands(FLIGHT, ROWS, STEPS)
        with self.assertRaises(TypeError):
            stands(FLIGHT, ROWS)


class Reach(unittest.TestCase):
    def test_of_told_tables(self):
        for flight in small_flights(seed=19, many=30):
            for steps in (0, 4):
                told = reach(table(flight, steps=steps))
                self.assertIs(type(told), tuple)
                self.assertEqual(told, tuple(
                    (min(heights), max(heights)) for heights in (
                        [height_behind(flight, motion) for motion in motions_of(flight, many)]
                        for many in range(steps + 1))))

    def test_of_24_steps(self):
        for flight in large_flights(seed=20, many=5, span=999999999):
            rows = table(flight, steps=24)
            self.assertEqual(reach(rows), reach_by_words(rows))

    def test_of_other_things_that_stand(self):
        full = full_rows(FLIGHT, ROWS)
        self.assertEqual(reach(full), reach_by_words(full))
        self.assertEqual(reach((((0, 1, 9, 1),),)), ((9, 1),))
        self.assertEqual(reach((((0, 0, 3, -3), (0, 1, 9, 1), (1, 1, 4, -8)),)), ((3, 1),))
        self.assertEqual(reach((((0, 1, 5, 5),), ((0, -1, 2, 4), (0, 0, 5, 5)))), ((5, 5), (2, 5)))

    def test_by_name(self):
        self.assertEqual(reach(rows=ROWS), reach_by_words(ROWS))


class MotionTo(unittest.TestCase):
    def look(self, flight, step, least, greatest):
        for lowest, due in ((True, least), (False, greatest)):
            told = motion_to(flight, step=step, lowest=lowest)
            self.assertTrue(is_flights_motion(flight, told), (flight, told))
            self.assertIs(is_motion(flight, told), True)
            self.assertEqual(len(told), step)
            self.assertEqual(height_behind(flight, told), due, (flight, told))
            self.assertEqual(motion_to(flight, step=step, lowest=lowest), told)

    def test_against_all_motions_of_small_flights(self):
        for flight in small_flights(seed=21, many=60):
            for step in range(5):
                heights = [height_behind(flight, motion) for motion in motions_of(flight, step)]
                self.look(flight, step, min(heights), max(heights))

    def test_to_24_steps_of_makes_of_many_rates(self):
        for flight in large_flights(seed=22, many=12, span=999999999) + [MANY_RATES]:
            reaches = reach_by_words(long_table(flight, 24))
            for step in (1, 2, 7, 13, 24):
                self.look(flight, step, *reaches[step])

    def test_heights_alike_behind_rates_from_which_one_may_not_go_on(self):
        for word, sign in (("sink", 1), ("climb", -1)):
            for flight in (
                ((9, 4, 1, 5), 0, -5 * sign, ("hold", ((word, 2), (word, 6), (word, 7)))),
                ((9, 4, 1, 5), 0, -8 * sign, ("hold", ((word, 3), (word, 5)))),
            ):
                reaches = reach_by_words(long_table(flight, 11))
                for step in range(12):
                    self.look(flight, step, *reaches[step])

    def test_lowest_left_out(self):
        for flight in small_flights(seed=23, many=10):
            self.assertEqual(motion_to(flight, step=4), motion_to(flight, step=4, lowest=True))
        flight = ((2, 2, 1, 2), 0, 0, ("free", ()))
        self.assertEqual(motion_to(flight, step=3), (-2, -2, -2))
        self.assertEqual(motion_to(flight, step=3, lowest=False), (2, 2, 2))

    def test_no_step(self):
        self.assertEqual(motion_to(MANY_RATES, step=0), ())
        self.assertEqual(motion_to(MANY_RATES, step=0, lowest=False), ())

    def test_by_names_alone(self):
        self.assertEqual(len(motion_to(lowest=False, step=3, flight=FLIGHT)), 3)
        with self.assertRaises(TypeError):
            motion_to(FLIGHT, 3)


if __name__ == "__main__":
    unittest.main()
