"""Point 4, and point 2 as far as it speaks of makes."""

import copy
import unittest

from climborsink.makes import is_make, may_go, rates_from
from tests.oracle import FOUR_WORDS as WORDS
from tests.oracle import let_by, rates_of
from tests.things import OTHER_THINGS, WHOLE_NUMBERS

ALL_MAKES = tuple(
    (most, change, haste, goal)
    for most in range(1, 10)
    for change in range(1, 5)
    for haste in range(1, change + 1)
    for goal in range(1, most + 1)
)


class IsMake(unittest.TestCase):
    def test_all_makes(self):
        self.assertEqual(len(ALL_MAKES), 450)
        for make in ALL_MAKES:
            self.assertIs(is_make(make), True, make)

    def test_all_four_numbers_around_the_bounds(self):
        makes = set(ALL_MAKES)
        for most in range(-1, 12):
            for change in range(-1, 7):
                for haste in range(-1, 7):
                    for goal in range(-1, 12):
                        make = (most, change, haste, goal)
                        self.assertIs(is_make(make), make in makes, make)

    def test_each_bound_and_one_beyond(self):
        for make in ((1, 1, 1, 1), (9, 4, 4, 9), (9, 1, 1, 1), (1, 4, 4, 1), (9, 4, 1, 9), (5, 3, 3, 5)):
            self.assertIs(is_make(make), True, make)
        for make in (
            (0, 1, 1, 0), (0, 1, 1, 1), (10, 1, 1, 1), (10, 4, 4, 10),
            (1, 0, 0, 1), (1, 0, 1, 1), (1, 5, 1, 1), (1, 5, 5, 1),
            (1, 1, 0, 1), (1, 1, 2, 1), (9, 3, 4, 9), (9, 4, 5, 9), (9, 4, -1, 9),
            (1, 1, 1, 0), (1, 1, 1, 2), (5, 4, 4, 6), (9, 4, 4, 10), (9, 4, 4, -9),
            (999999999, 1, 1, 1), (-999999999, 1, 1, 1), (1, 999999999, 1, 1), (1, 1, 1, 999999999),
        ):
            self.assertIs(is_make(make), False, make)

    def test_other_things_in_each_place(self):
        for make in ((1, 1, 1, 1), (9, 4, 2, 5)):
            for place in range(4):
                for thing in OTHER_THINGS:
                    spoilt = make[:place] + (thing,) + make[place + 1:]
                    self.assertIs(is_make(spoilt), False, spoilt)

    def test_truths_alone(self):
        self.assertIs(is_make((True, True, True, True)), False)

    def test_fewer_and_more_numbers(self):
        make = (9, 4, 2, 5)
        for many in range(4):
            self.assertIs(is_make(make[:many]), False)
        for more in ((1,), (5, 5), make):
            self.assertIs(is_make(make + more), False)

    def test_other_things(self):
        for thing in OTHER_THINGS + WHOLE_NUMBERS:
            self.assertIs(is_make(thing), False, thing)
        for thing in (list((9, 4, 2, 5)), "9425", ("9", "4", "2", "5"), ((9, 4, 2, 5),), ((9, 4), (2, 5))):
            self.assertIs(is_make(thing), False, thing)

    def test_by_name(self):
        self.assertIs(is_make(thing=(9, 4, 2, 5)), True)
        self.assertIs(is_make(thing=None), False)

    def test_nothing_handed_in_is_changed(self):
        for thing in ([9, 4, 2, 5], ([9], [4], [2], [5]), (9, 4, 2, [5])):
            before = copy.deepcopy(thing)
            is_make(thing)
            self.assertEqual(thing, before)


class MayGo(unittest.TestCase):
    def test_all_makes_words_and_rates(self):
        for make in ALL_MAKES:
            for word in WORDS:
                for rate in rates_of(make):
                    for other in range(-make[0] - 1, make[0] + 2):
                        self.assertIs(
                            may_go(make, word, rate, other), let_by(make, word, rate, other),
                            (make, word, rate, other))

    def test_numbers_beyond_the_rates(self):
        for make in ((1, 4, 1, 1), (9, 4, 4, 9), (9, 1, 1, 1)):
            for word in WORDS:
                for rate in rates_of(make):
                    for other in (make[0] + 1, -make[0] - 1, 100, -100, 999999999, -999999999):
                        self.assertIs(may_go(make, word, rate, other), False)

    def test_other_things(self):
        # From each of these rates one may go to 0 and 1, so a truth is refused as a truth alone.
        for word, rate in (("climb", 0), ("free", 0), ("hold", 2), ("sink", 2), ("hold", 0)):
            for thing in OTHER_THINGS:
                self.assertIs(may_go((9, 4, 1, 9), word, rate, thing), False, (word, rate, thing))

    def test_truths_where_their_numbers_are_let_by(self):
        self.assertIs(may_go((9, 4, 1, 9), "climb", 0, 1), True)
        self.assertIs(may_go((9, 4, 1, 9), "climb", 0, True), False)
        self.assertIs(may_go((9, 4, 1, 9), "hold", 1, 0), True)
        self.assertIs(may_go((9, 4, 1, 9), "hold", 1, False), False)

    def test_by_names(self):
        self.assertIs(may_go(make=(9, 4, 2, 5), word="climb", rate=0, other=2), True)
        self.assertIs(may_go(other=1, rate=0, word="climb", make=(9, 4, 2, 5)), False)

    def test_nothing_handed_in_is_changed(self):
        thing = [1, [2, (3, [4])]]
        before = copy.deepcopy(thing)
        may_go((9, 4, 2, 5), "free", 0, thing)
        self.assertEqual(thing, before)


class RatesFrom(unittest.TestCase):
    def test_all_makes_words_and_rates(self):
        for make in ALL_MAKES:
            for word in WORDS:
                for rate in rates_of(make):
                    told = rates_from(make, word, rate)
                    self.assertIs(type(told), list)
                    self.assertGreaterEqual(len(told), 1)
                    self.assertEqual(
                        told, [other for other in rates_of(make) if let_by(make, word, rate, other)],
                        (make, word, rate))

    def test_the_same_as_may_go(self):
        for make in ALL_MAKES:
            for word in WORDS:
                for rate in rates_of(make):
                    self.assertEqual(
                        rates_from(make, word, rate),
                        [other for other in range(-10, 11) if may_go(make, word, rate, other)])

    def test_climb(self):
        make = (9, 3, 2, 5)
        self.assertEqual(rates_from(make, "climb", 0), [2, 3])
        self.assertEqual(rates_from(make, "climb", -9), [-7, -6])
        self.assertEqual(rates_from(make, "climb", 4), [5, 6, 7])
        self.assertEqual(rates_from(make, "climb", 5), [5, 6, 7, 8])
        # Beyond goal one may slow down, yet not below goal.
        self.assertEqual(rates_from(make, "climb", 7), [5, 6, 7, 8, 9])
        self.assertEqual(rates_from(make, "climb", 9), [6, 7, 8, 9])

    def test_sink(self):
        make = (9, 3, 2, 5)
        self.assertEqual(rates_from(make, "sink", 0), [-3, -2])
        self.assertEqual(rates_from(make, "sink", 9), [6, 7])
        self.assertEqual(rates_from(make, "sink", -4), [-7, -6, -5])
        self.assertEqual(rates_from(make, "sink", -5), [-8, -7, -6, -5])
        self.assertEqual(rates_from(make, "sink", -7), [-9, -8, -7, -6, -5])
        self.assertEqual(rates_from(make, "sink", -9), [-9, -8, -7, -6])

    def test_the_other_side_of_goal_does_not_count(self):
        make = (9, 3, 2, 5)
        self.assertEqual(rates_from(make, "climb", -7), [-5, -4])
        self.assertEqual(rates_from(make, "sink", 7), [4, 5])

    def test_hold(self):
        make = (9, 4, 2, 5)
        self.assertEqual(rates_from(make, "hold", 0), [0])
        self.assertEqual(rates_from(make, "hold", 1), [0])
        self.assertEqual(rates_from(make, "hold", -1), [0])
        self.assertEqual(rates_from(make, "hold", 2), [0])
        # One may cross 0 where one is nearer to it by haste behind the step.
        self.assertEqual(rates_from(make, "hold", 3), [-1, 0, 1])
        self.assertEqual(rates_from(make, "hold", -3), [-1, 0, 1])
        self.assertEqual(rates_from(make, "hold", 4), [0, 1, 2])
        self.assertEqual(rates_from(make, "hold", -4), [-2, -1, 0])
        self.assertEqual(rates_from(make, "hold", 9), [5, 6, 7])
        self.assertEqual(rates_from(make, "hold", -9), [-7, -6, -5])

    def test_hold_by_the_least_haste(self):
        make = (9, 4, 1, 5)
        self.assertEqual(rates_from(make, "hold", 2), [-1, 0, 1])
        self.assertEqual(rates_from(make, "hold", -3), [-2, -1, 0, 1])
        self.assertEqual(rates_from(make, "hold", 3), [-1, 0, 1, 2])

    def test_free(self):
        make = (4, 3, 2, 2)
        self.assertEqual(rates_from(make, "free", 0), [-3, -2, -1, 0, 1, 2, 3])
        self.assertEqual(rates_from(make, "free", 4), [1, 2, 3, 4])
        self.assertEqual(rates_from(make, "free", -3), [-4, -3, -2, -1, 0])

    def test_least_and_greatest_make(self):
        self.assertEqual(rates_from((1, 1, 1, 1), "climb", -1), [0])
        self.assertEqual(rates_from((1, 1, 1, 1), "climb", 1), [1])
        self.assertEqual(rates_from((1, 4, 4, 1), "sink", 1), [-1])
        self.assertEqual(rates_from((1, 4, 4, 1), "hold", 1), [0])
        self.assertEqual(rates_from((9, 4, 4, 9), "climb", -9), [-5])
        self.assertEqual(rates_from((9, 4, 4, 9), "climb", 8), [9])

    def test_by_names(self):
        self.assertEqual(rates_from(make=(9, 3, 2, 5), word="climb", rate=0), [2, 3])
        self.assertEqual(rates_from(rate=0, make=(9, 3, 2, 5), word="sink"), [-3, -2])

    def test_each_list_is_new(self):
        for word in WORDS:
            for rate in range(-9, 10):
                first = rates_from((9, 4, 1, 5), word, rate)
                second = rates_from((9, 4, 1, 5), word, rate)
                self.assertIsNot(first, second)
                kept = list(second)
                first.append(99)
                first.reverse()
                self.assertEqual(second, kept)
                self.assertEqual(rates_from((9, 4, 1, 5), word, rate), kept)
                self.assertIs(may_go((9, 4, 1, 5), word, rate, 99), False)


if __name__ == "__main__":
    unittest.main()
