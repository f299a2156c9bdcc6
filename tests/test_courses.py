"""Point 5, and point 2 as far as it speaks of courses, flights and motions."""

import copy
import itertools
import random
import unittest

from climborsink.courses import LATE, heights_of, is_course, is_flight, is_motion, modes_at, turned
from climborsink.errors import NoTurn
from tests.oracle import (
    FOUR_WORDS, goes_by_hearing, is_course_by_words, is_flight_by_words, is_flights_motion, modes_behind, motions_of)
from tests.samples import large_flights, random_motion, small_flights
from tests.things import OTHER_THINGS, WHOLE_NUMBERS, put_otherwise

MAKE = (9, 4, 2, 5)
THREE = (("sink", 0), ("hold", 5), ("free", 12))
COURSE = ("climb", THREE)
FLIGHT = (MAKE, 100, 3, COURSE)

COURSES = (
    ("free", ()),
    ("climb", (("sink", 2),)),
    ("hold", (("climb", 0),)),
    ("sink", (("hold", 12),)),
    ("free", (("climb", 1), ("sink", 3))),
    ("free", (("hold", 4), ("climb", 4))),
    ("climb", (("sink", 0), ("climb", 0), ("sink", 0))),
    ("climb", (("sink", 12), ("climb", 12), ("sink", 12))),
    ("hold", (("sink", 3), ("free", 3), ("climb", 9))),
    COURSE,
)


class IsCourse(unittest.TestCase):
    def test_courses(self):
        for course in COURSES:
            self.assertIs(is_course(course), True, course)

    def test_each_word_at_first_and_in_each_turn(self):
        for first, *words in itertools.product(FOUR_WORDS, repeat=4):
            for many in range(4):
                course = (first, tuple((word, 2) for word in words[:many]))
                self.assertIs(is_course(course), True, course)

    def test_other_words(self):
        for word in ("", "Climb", "climb ", "clim", "free sink", "turn", None, 0, ("climb",), ["climb"], True):
            self.assertIs(is_course((word, ())), False, word)
            self.assertIs(is_course(("climb", ((word, 2),))), False, word)
            self.assertIs(is_course(("climb", (("climb", 2), (word, 2)))), False, word)

    def test_four_turns(self):
        for limit in (0, 5, 12):
            turns = (("sink", limit),) * 4
            for many in range(4):
                self.assertIs(is_course(("hold", turns[:many])), True)
            self.assertIs(is_course(("hold", turns)), False)
            self.assertIs(is_course(("hold", turns * 2)), False)

    def test_all_limits_around_the_bounds(self):
        for limit in range(-3, 16):
            self.assertIs(is_course(("free", (("sink", limit),))), 0 <= limit <= 12, limit)
        for limit in (-999999999, 999999999):
            self.assertIs(is_course(("free", (("sink", limit),))), False, limit)

    def test_limits_that_rise_stay_and_fall(self):
        for limits in itertools.product((0, 1, 6, 11, 12), repeat=3):
            course = ("free", tuple(("climb", limit) for limit in limits))
            self.assertIs(is_course(course), limits[0] <= limits[1] <= limits[2], limits)
        self.assertIs(is_course(("free", (("climb", 3), ("sink", 3)))), True)
        self.assertIs(is_course(("free", (("climb", 3), ("sink", 2)))), False)
        self.assertIs(is_course(("free", (("climb", 3), ("sink", 4), ("sink", 3)))), False)

    def test_truths_in_the_place_of_limits(self):
        for limits in ((False,), (True,), (0, True), (False, 3), (True, True, True)):
            turns = tuple(("climb", limit) for limit in limits)
            self.assertIs(is_course(("free", turns)), False, limits)

    def test_lists_in_the_place_of_tuples(self):
        for thing in (
            ["free", ()], ("free", []), ["free", []], ("free", [("climb", 2)]), ("free", (["climb", 2],)),
            ("free", (("climb", 2), ["climb", 2])), [("free", ())],
        ):
            self.assertIs(is_course(thing), False, thing)

    def test_too_few_and_too_many_parts(self):
        for thing in (
            (), ("free",), ("free", (), ()), ("free", (), None), ("free", ("climb", 2)), ("free", (("climb",),)),
            ("free", (("climb", 2, 2),)), ("free", ((),)), (("free", ()),), ("free", ((("climb", 2),),)),
            ((), "free"), ("free", ((2, "climb"),)), ("free", None), ("free", "climb"), ("free", 0), ("free", 2),
        ):
            self.assertIs(is_course(thing), False, thing)

    def test_other_things(self):
        for thing in OTHER_THINGS + WHOLE_NUMBERS + (FLIGHT, MAKE):
            self.assertIs(is_course(thing), False, thing)

    def test_other_things_in_each_part(self):
        for course in (("free", (("climb", 2),)), COURSE):
            for thing in OTHER_THINGS + WHOLE_NUMBERS:
                for spoilt in put_otherwise(course, thing):
                    self.assertIs(is_course(spoilt), is_course_by_words(spoilt), spoilt)

    def test_nothing_handed_in_is_changed(self):
        for thing in (["free", [["climb", 2]]], ("free", [("sink", 3), ("sink", 2)]), ("free", (["climb", 2],))):
            before = copy.deepcopy(thing)
            is_course(thing)
            self.assertEqual(thing, before)

    def test_by_name(self):
        self.assertIs(is_course(thing=COURSE), True)
        self.assertIs(is_course(thing=()), False)


class IsFlight(unittest.TestCase):
    def test_flights(self):
        for course in COURSES:
            for height in WHOLE_NUMBERS:
                self.assertIs(is_flight((MAKE, height, -9, course)), True)

    def test_heights_of_nine_figures_and_beyond(self):
        # A sky can tell heights beyond nine figures, and what was told may be handed in again.
        for height in (999999999, -999999999, 1000000215, -1000000215):
            self.assertIs(is_flight((MAKE, height, 0, ("free", ()))), True, height)

    def test_rates_around_the_ends_of_the_make(self):
        for most in range(1, 10):
            for rate in range(-12, 13):
                self.assertIs(is_flight(((most, 1, 1, 1), 0, rate, ("free", ()))), -most <= rate <= most, (most, rate))

    def test_truths_in_the_place_of_numbers(self):
        for spoilt in (
            (MAKE, True, 0, COURSE), (MAKE, False, 0, COURSE), (MAKE, 0, True, COURSE), (MAKE, 0, False, COURSE),
            ((True, 1, 1, 1), 0, 0, COURSE), ((1, 1, True, 1), 0, 0, COURSE),
            (MAKE, 0, 0, ("free", (("climb", True),))),
        ):
            self.assertIs(is_flight(spoilt), False, spoilt)

    def test_parts_that_are_none(self):
        for spoilt in (
            ((9, 4, 5, 5), 0, 0, COURSE), ((0, 1, 1, 0), 0, 0, COURSE), (list(MAKE), 0, 0, COURSE),
            (MAKE, "0", 0, COURSE), (MAKE, None, 0, COURSE), (MAKE, (0,), 0, COURSE), (MAKE, [0], 0, COURSE),
            (MAKE, 0, "0", COURSE), (MAKE, 0, None, COURSE), (MAKE, 0, (0,), COURSE),
            (MAKE, 0, 0, list(COURSE)), (MAKE, 0, 0, "free"), (MAKE, 0, 0, ("free",)), (MAKE, 0, 0, None),
            (MAKE, 0, 0, ("free", (("climb", 3), ("climb", 2)))), (MAKE, 0, 0, ("free", (("climb", 13),))),
        ):
            self.assertIs(is_flight(spoilt), False, spoilt)

    def test_too_few_and_too_many_parts(self):
        for many in range(4):
            self.assertIs(is_flight(FLIGHT[:many]), False)
        self.assertIs(is_flight(FLIGHT + (0,)), False)
        self.assertIs(is_flight(FLIGHT + FLIGHT), False)
        self.assertIs(is_flight((FLIGHT,)), False)
        self.assertIs(is_flight(list(FLIGHT)), False)
        self.assertIs(is_flight(FLIGHT[::-1]), False)

    def test_other_things(self):
        for thing in OTHER_THINGS + WHOLE_NUMBERS + COURSES:
            self.assertIs(is_flight(thing), False, thing)

    def test_other_things_in_each_part(self):
        for thing in OTHER_THINGS + WHOLE_NUMBERS:
            for spoilt in put_otherwise(FLIGHT, thing):
                self.assertIs(is_flight(spoilt), is_flight_by_words(spoilt), spoilt)

    def test_nothing_handed_in_is_changed(self):
        for thing in ([list(MAKE), 0, 0, ["free", []]], (MAKE, 0, 0, ["free", [["sink", 3]]])):
            before = copy.deepcopy(thing)
            is_flight(thing)
            self.assertEqual(thing, before)

    def test_by_name(self):
        self.assertIs(is_flight(thing=FLIGHT), True)


class Turned(unittest.TestCase):
    def test_late(self):
        self.assertEqual(LATE, 2)
        self.assertIs(type(LATE), int)

    def test_limit_left_out(self):
        self.assertEqual(turned(("free", ()), "climb"), ("free", (("climb", 2),)))
        self.assertEqual(turned(("hold", (("sink", 1),)), "free"), ("hold", (("sink", 1), ("free", 2))))
        self.assertEqual(turned(("hold", (("sink", 2),)), "free"), ("hold", (("sink", 2), ("free", 2))))

    def test_limit_left_out_below_the_last_one(self):
        with self.assertRaises(NoTurn) as caught:
            turned(("hold", (("sink", 3),)), "free")
        self.assertEqual(caught.exception.limit, 3)

    def test_all_words_and_limits_behind_all_courses(self):
        for course in COURSES:
            for word in FOUR_WORDS:
                for limit in range(13):
                    self.look(course, word, limit)

    def look(self, course, word, limit):
        first, turns = course
        if len(turns) == 3:
            due = (NoTurn, None)
        elif turns and limit < turns[-1][1]:
            due = (NoTurn, turns[-1][1])
        else:
            due = (tuple, (first, turns + ((word, limit),)))
        before = copy.deepcopy(course)
        try:
            told = (tuple, turned(course, word, limit=limit))
            self.assertIs(is_course(told[1]), True)
        except NoTurn as error:
            told = (NoTurn, error.limit)
        self.assertEqual(told, due, (course, word, limit))
        self.assertEqual(course, before)

    def test_three_turns_ahead_of_a_limit_below(self):
        for limit in (0, 1, 12):
            with self.assertRaises(NoTurn) as caught:
                turned(("free", (("climb", 4), ("sink", 5), ("hold", 6))), "free", limit=limit)
            self.assertIsNone(caught.exception.limit)

    def test_turn_behind_turn(self):
        course = ("free", ())
        for word, limit in (("climb", 0), ("hold", 0), ("sink", 12)):
            course = turned(course, word, limit=limit)
        self.assertEqual(course, ("free", (("climb", 0), ("hold", 0), ("sink", 12))))

    def test_by_names_and_by_places(self):
        due = ("free", (("sink", 7),))
        self.assertEqual(turned(course=("free", ()), word="sink", limit=7), due)
        self.assertEqual(turned(limit=7, word="sink", course=("free", ())), due)
        with self.assertRaises(TypeError):
            turned(("free", ()), "sink", 7)


class ModesAt(unittest.TestCase):
    def test_ahead_of_the_first_step(self):
        for course in COURSES:
            self.assertEqual(modes_at(course, 0), (0, 0))

    def test_all_steps_of_all_courses(self):
        for course in COURSES:
            for step in range(1, 25):
                highest = len(course[1])
                allowed = [
                    mode for mode in range(highest + 1)
                    if all(mode >= number for number in range(1, highest + 1) if course[1][number - 1][1] < step)]
                told = modes_at(course, step)
                self.assertIs(type(told), tuple)
                self.assertEqual(told, (allowed[0], allowed[-1]), (course, step))

    def test_a_turn_is_heard_behind_step_limit_at_the_latest(self):
        course = ("free", (("climb", 2),))
        self.assertEqual([modes_at(course, step) for step in range(5)], [(0, 0), (0, 1), (0, 1), (1, 1), (1, 1)])

    def test_limits_0_and_12(self):
        course = ("free", (("climb", 0), ("sink", 12)))
        self.assertEqual(modes_at(course, 1), (1, 2))
        self.assertEqual(modes_at(course, 12), (1, 2))
        self.assertEqual(modes_at(course, 13), (2, 2))
        self.assertEqual(modes_at(course, 24), (2, 2))

    def test_turns_with_the_same_limit(self):
        course = ("free", (("climb", 3), ("sink", 3), ("hold", 3)))
        self.assertEqual(modes_at(course, 3), (0, 3))
        self.assertEqual(modes_at(course, 4), (3, 3))

    def test_no_turns(self):
        for step in range(25):
            self.assertEqual(modes_at(("sink", ()), step), (0, 0))

    def test_the_modes_in_which_motions_end(self):
        for flight in small_flights(seed=1, many=12):
            for step in range(1, 5):
                modes = set().union(*(modes_behind(flight, motion) for motion in motions_of(flight, step)))
                self.assertEqual(modes_at(flight[3], step), (min(modes), max(modes)), (flight, step))

    def test_by_names(self):
        self.assertEqual(modes_at(step=1, course=COURSE), (1, 3))


class IsMotion(unittest.TestCase):
    def test_all_tuples_of_rates_of_small_flights(self):
        for flight in small_flights(seed=2, many=30):
            around = range(-flight[0][0] - 1, flight[0][0] + 2)
            for many in range(4):
                motions = motions_of(flight, many)
                for thing in itertools.product(around, repeat=many):
                    self.assertIs(is_motion(flight, thing), thing in motions, (flight, thing))

    def test_none_to_24_steps_and_25(self):
        chance = random.Random(3)
        for flight in large_flights(seed=3, many=10):
            motion, modes = random_motion(chance, flight, 25)
            for many in range(25):
                self.assertIs(is_motion(flight, motion[:many]), True, (flight, motion[:many]))
            self.assertIs(is_motion(flight, motion), False)

    def test_25_steps_of_rate_0(self):
        flight = ((9, 4, 1, 5), 0, 0, ("hold", ()))
        self.assertIs(is_motion(flight, (0,) * 24), True)
        self.assertIs(is_motion(flight, (0,) * 25), False)
        self.assertIs(is_motion(flight, (0,) * 20000), False)

    def test_each_bent_at_each_place(self):
        chance = random.Random(4)
        refused = 0
        for flight in large_flights(seed=4, many=8):
            motion, modes = random_motion(chance, flight, 24)
            for place in range(24):
                for by in (-5, -2, -1, 1, 2, 5):
                    bent = motion[:place] + (motion[place] + by,) + motion[place + 1:]
                    due = is_flights_motion(flight, bent)
                    refused += not due
                    self.assertIs(is_motion(flight, bent), due, (flight, bent))
        self.assertGreater(refused, 500)

    def test_by_all_ways_to_hear_the_turns(self):
        chance = random.Random(5)
        for flight in large_flights(seed=5, many=20, turns=(2, 3)):
            motion, modes = random_motion(chance, flight, 9)
            self.assertIs(is_motion(flight, motion), True)
            for at in range(12):
                place = chance.randrange(9)
                bent = motion[:place] + (motion[place] + chance.choice((-1, 1)),) + motion[place + 1:]
                self.assertIs(is_motion(flight, bent), goes_by_hearing(flight, bent), (flight, bent))

    def test_of_another_flight(self):
        chance = random.Random(6)
        flights = large_flights(seed=6, many=12)
        for flight in flights:
            motion, modes = random_motion(chance, flight, 6)
            for other in flights:
                self.assertIs(is_motion(other, motion), is_flights_motion(other, motion), (other, motion))

    def test_a_turn_heard_early(self):
        flight = ((9, 2, 2, 6), 0, 0, ("sink", (("climb", 12),)))
        self.assertIs(is_motion(flight, (2, 4, 6, 6)), True)
        self.assertIs(is_motion(flight, (-2, 0, 2)), True)
        # Once it has been heard, the first word is told no more.
        self.assertIs(is_motion(flight, (2, 0)), False)

    def test_a_turn_heard_late(self):
        flight = ((9, 2, 2, 6), 0, 0, ("sink", (("climb", 2),)))
        self.assertIs(is_motion(flight, (-2, -4, -2)), True)
        self.assertIs(is_motion(flight, (-2, -4, -6)), False)
        self.assertIs(is_motion(flight, (-2, 0, 2)), True)
        flight = ((9, 2, 2, 6), 0, 0, ("sink", (("climb", 0),)))
        self.assertIs(is_motion(flight, (2,)), True)
        self.assertIs(is_motion(flight, (-2,)), False)
        flight = ((9, 1, 1, 9), 0, 0, ("climb", (("sink", 12),)))
        up = tuple(min(step, 9) for step in range(1, 13))
        self.assertIs(is_motion(flight, up), True)
        self.assertIs(is_motion(flight, up + (8,)), True)
        self.assertIs(is_motion(flight, up + (9,)), False)

    def test_several_turns_heard_at_once(self):
        flight = ((9, 2, 2, 6), 0, 4, ("climb", (("sink", 3), ("hold", 3), ("climb", 3))))
        self.assertIs(is_motion(flight, (2, 0, 0)), True)
        self.assertIs(is_motion(flight, (6, 4, 6)), True)
        flight = ((9, 2, 2, 6), 0, 4, ("climb", (("sink", 0), ("hold", 0), ("climb", 0))))
        self.assertIs(is_motion(flight, (6,)), True)
        self.assertIs(is_motion(flight, (2,)), False)

    def test_a_step_that_two_modes_let_by(self):
        # From 3 to 2 one may go by either word, from 2 to -2 by sink alone.
        for course in (("sink", (("hold", 5),)), ("hold", (("sink", 5),)), ("free", (("sink", 5), ("hold", 5)))):
            flight = ((9, 4, 1, 5), 0, 3, course)
            self.assertIs(is_motion(flight, (2, -2)), True, course)
        flight = ((9, 4, 1, 5), 0, 3, ("sink", (("hold", 1),)))
        self.assertIs(is_motion(flight, (2, -1)), True)
        self.assertIs(is_motion(flight, (2, -2)), False)

    def test_truths_in_the_place_of_rates(self):
        flight = ((9, 4, 1, 5), 0, 0, ("free", ()))
        self.assertIs(is_motion(flight, (0, 1)), True)
        for thing in ((False, 1), (0, True), (True,), (False,), (0, False, 1)):
            self.assertIs(is_motion(flight, thing), False, thing)

    def test_things_that_are_no_motion(self):
        flight = ((9, 4, 1, 5), 0, 0, ("free", ()))
        for thing in OTHER_THINGS + WHOLE_NUMBERS:
            self.assertIs(is_motion(flight, thing), is_flights_motion(flight, thing), thing)
            self.assertIs(is_motion(flight, (thing,)), is_flights_motion(flight, (thing,)), thing)
            self.assertIs(is_motion(flight, (0, thing, 0)), is_flights_motion(flight, (0, thing, 0)), thing)
        for thing in ([], [0], [0, 1], "", "01", None, 0, ((0, 1),), ([0],), ("0",), (None,), (0, "1")):
            self.assertIs(is_motion(flight, thing), False, thing)
        self.assertIs(is_motion(flight, ()), True)

    def test_nothing_handed_in_is_changed(self):
        for thing in ([0, 1], (0, [1]), [[0], (1, [2])]):
            before = copy.deepcopy(thing)
            is_motion(FLIGHT, thing)
            self.assertEqual(thing, before)

    def test_by_names(self):
        self.assertIs(is_motion(thing=(), flight=FLIGHT), True)


class HeightsOf(unittest.TestCase):
    def test_no_step(self):
        for height in WHOLE_NUMBERS:
            self.assertEqual(heights_of((MAKE, height, 3, COURSE), ()), (height,))

    def test_some_steps(self):
        flight = ((9, 2, 2, 6), 10, 0, ("sink", (("climb", 2),)))
        self.assertEqual(heights_of(flight, (-2, -4, -2, 0, 2)), (10, 8, 4, 2, 2, 4))

    def test_24_steps(self):
        chance = random.Random(7)
        for flight in large_flights(seed=7, many=6, span=999999999):
            motion, modes = random_motion(chance, flight, 24)
            told = heights_of(flight, motion)
            self.assertIs(type(told), tuple)
            self.assertEqual(told, tuple(flight[1] + sum(motion[:many]) for many in range(25)))

    def test_heights_at_nine_figures(self):
        flight = (MAKE, 999999999, 9, ("free", ()))
        self.assertEqual(heights_of(flight, (9, 9)), (999999999, 1000000008, 1000000017))
        flight = (MAKE, -999999999, -9, ("free", ()))
        self.assertEqual(heights_of(flight, (-9, -9)), (-999999999, -1000000008, -1000000017))

    def test_by_names(self):
        self.assertEqual(heights_of(motion=(3,), flight=FLIGHT), (100, 103))


if __name__ == "__main__":
    unittest.main()
