"""Point 12, and point 2 as far as it speaks of turning about."""

import itertools
import random
import time
import unittest

from climborsink.courses import is_flight
from climborsink.dealing import WORDS, dealt, room
from climborsink.turning import turn_about
from tests.oracle import (
    all_words, dealt_by_words, gap_by_motions, room_of_reaches, rooms_by_words, long_reach, turn_about_by_words)
from tests.samples import large_flights, small_flights

MAKE = (9, 4, 2, 5)


def told(course, *heights, rate=0, make=MAKE):
    return tuple((make, height, rate, course) for height in heights)


def groups(seed, many, span, large):
    """Two, three and four flights of at most one turn, with a window, a held and a late for each group."""
    chance = random.Random(seed)
    found = []
    for at in range(many):
        of = large_flights if large else small_flights
        flights = of(seed=chance.random(), many=2 + at % 3, turns=(0, 1), span=span)
        limits = [limit for flight in flights for word, limit in flight[3][1]]
        held = chance.randint(max(limits, default=0), 12)
        first = chance.randint(1, 24 if large else 4)
        last = chance.randint(first, 24 if large else 4)
        found.append((tuple(flights), (first, last), held, chance.randint(held, 12)))
    return found


SMALL_GROUPS = groups(seed=61, many=18, span=20, large=False)
LARGE_GROUPS = groups(seed=62, many=30, span=500, large=True)
# Words that lead two craft together, heard at the latest behind step 1.
TOGETHER = (
    (MAKE, 0, 0, ("free", (("climb", 1),))),
    (MAKE, 100, 0, ("free", (("sink", 1),))),
)
LONGEST = (
    tuple(((9, 4, 1, 5), height, 3, ("free", (("climb", 12),))) for height in (0, 1500, -1500, 700)),
    (1, 24), 12, 12)


class TurnAbout(unittest.TestCase):
    def look(self, flights, window, held, late):
        answer = turn_about(flights, window=window, held=held, late=late)
        self.assertIs(type(answer), tuple)
        self.assertEqual(answer, turn_about_by_words(flights, window, held, late), (flights, window, held, late))
        return answer[0]

    def look_at_all(self, found):
        return [self.look(*group) for group in found]

    def test_small_flights(self):
        answers = self.look_at_all(SMALL_GROUPS)
        self.assertEqual(sorted(set(answers)), ["stay", "turn"])

    def test_large_flights(self):
        answers = self.look_at_all(LARGE_GROUPS)
        self.assertGreater(answers.count("stay"), 4)
        self.assertGreater(answers.count("turn"), 4)

    def test_against_all_motions_of_small_flights(self):
        for flights, window, held, late in SMALL_GROUPS[:6]:
            staying = min(
                max(gap_by_motions(one, other, window), gap_by_motions(other, one, window))
                for one, other in itertools.combinations(flights, 2))
            answer = turn_about(flights, window=window, held=held, late=late)
            if answer[0] == "stay":
                self.assertEqual(answer, ("stay", staying))
            else:
                self.assertGreater(answer[2], staying)

    def test_against_all_words_one_by_one(self):
        for flights, window, held, late in LARGE_GROUPS[:9]:
            holding = tuple(dealt(flight, "hold", late=held) for flight in flights)
            rooms = [(room(holding, words, window=window, late=late), words) for words in all_words(len(flights))]
            greatest = max(rooms, key=lambda found: found[0])[0]
            first = [words for found, words in rooms if found == greatest][0]
            staying = room_of_reaches([long_reach(flight, window[1]) for flight in flights], window)
            due = ("turn", first, greatest) if greatest > staying else ("stay", staying)
            self.assertEqual(turn_about(flights, window=window, held=held, late=late), due)

    def test_two_craft_that_were_told_words_which_lead_them_together(self):
        answer = turn_about(TOGETHER, window=(12, 12))
        self.assertEqual((answer[0], answer[1]), ("turn", ("sink", "climb")))
        self.assertEqual(self.look(TOGETHER, (1, 12), 2, 4), "turn")
        # Far behind the meeting they are parted as they are.
        self.assertEqual(self.look(TOGETHER[:1] + (TOGETHER[1][:1] + (1,) + TOGETHER[1][2:],), (20, 24), 12, 12), "stay")

    def test_with_and_without_a_turn(self):
        flights = (TOGETHER[0], (MAKE, 60, 0, ("sink", ())), (MAKE, 160, 0, ("free", ())), TOGETHER[1])
        for many in (2, 3, 4):
            for window in ((1, 1), (3, 9), (1, 24), (24, 24)):
                self.look(flights[:many], window, 1, 3)
                self.look(flights[-many:], window, 1, 3)

    def test_limits_left_out_and_told(self):
        # Of craft that hold already late shows in the room, of craft that are free held does.
        for course, others in (("hold", ((2, 3), (2, 5))), ("free", ((1, 4), (3, 4)))):
            flights = told((course, ()), 0, 40)
            window = (9, 9)
            answers = {
                (held, late): turn_about(flights, window=window, held=held, late=late)
                for held in range(5) for late in range(held, 8)}
            for (held, late), answer in answers.items():
                self.assertEqual(answer, turn_about_by_words(flights, window, held, late))
            self.assertEqual(turn_about(flights, window=window), answers[2, 4])
            self.assertEqual(turn_about(flights, window=window, held=3), answers[3, 4])
            self.assertEqual(turn_about(flights, window=window, held=0), answers[0, 4])
            self.assertEqual(turn_about(flights, window=window, late=7), answers[2, 7])
            for other in others:
                self.assertNotEqual(answers[2, 4], answers[other], other)

    def test_held_the_same_as_late(self):
        for limit in range(1, 13):
            self.look(TOGETHER, (1, 24), limit, limit)
            self.look(TOGETHER, (4, 8), limit, limit)

    def test_both_at_a_flights_limit(self):
        for limit in (0, 1, 6, 12):
            flights = told(("climb", (("sink", limit),)), 0, 90) + told(("sink", (("hold", 0),)), 200)
            for window in ((1, 3), (limit + 1, limit + 6), (14, 24)):
                self.look(flights, window, limit, limit)

    def test_limits_0_and_12(self):
        for flights in (told(("sink", ()), 0, 30), told(("climb", (("sink", 0),)), 0, 30, 60)):
            for held, late in ((0, 0), (0, 12), (12, 12)):
                for window in ((1, 1), (1, 24), (13, 13), (12, 24)):
                    self.look(flights, window, held, late)

    def test_windows_of_one_step_and_of_many(self):
        for step in range(1, 25):
            self.look(TOGETHER, (step, step), 2, 4)
            self.look(TOGETHER, (step, 24), 2, 4)
            self.look(TOGETHER, (1, step), 2, 4)

    def test_ties_of_which_the_first_stands(self):
        tied = 0
        # Far apart the words of the middle craft change nothing of the room of the nearest two.
        for flights in (
                told(("free", ()), 0, 40, 5000), told(("free", ()), 5000, 0, 40, -5000),
                told(("free", ()), 0, 0), told(("free", ()), 7, 7, 7)):
            for window in ((8, 8), (5, 20), (24, 24)):
                holding = [dealt_by_words(flight, "hold", 1) for flight in flights]
                rooms = rooms_by_words(holding, window, 2)
                answer = turn_about(flights, window=window, held=1, late=2)
                self.look(flights, window, 1, 2)
                ties = [words for words in rooms if rooms[words] == max(rooms.values())]
                if answer[0] == "turn" and len(ties) > 1:
                    tied += 1
                    self.assertEqual(answer[1], min(ties))
        self.assertGreater(tied, 5)

    def test_the_same_room_by_staying_and_by_turning(self):
        # One step ahead of all limits no words are needed by then: turning makes no greater room.
        for heights in ((0, 9), (9, 0), (0, 100, 200), (0, 5, 10, 15)):
            flights = told(("hold", ()), *heights)
            holding = [dealt_by_words(flight, "hold", 2) for flight in flights]
            same = max(rooms_by_words(holding, (1, 4), 4).values())
            self.assertEqual(turn_about(flights, window=(1, 4)), ("stay", same))
        # A word more, and a craft that climbs as it was told to has the same room, too.
        flights = (((1, 1, 1, 1), 0, -1, ("sink", ())), ((1, 1, 1, 1), 10, 1, ("climb", ())))
        self.assertEqual(turn_about(flights, window=(3, 3), held=3, late=3), ("stay", 16))

    def test_by_one_more_it_is_a_turn(self):
        # From step 5 on the words that were heard behind step 4 part them farther.
        flights = told(("hold", ()), 0, 9, make=(1, 1, 1, 1))
        self.assertEqual(turn_about(flights, window=(4, 4)), ("stay", 9))
        self.assertEqual(turn_about(flights, window=(5, 5)), ("turn", ("sink", "climb"), 11))

    def test_a_room_below_0(self):
        flights = told(("free", ()), 0, 0)
        answer = turn_about(flights, window=(1, 24))
        self.assertEqual(answer, turn_about_by_words(flights, (1, 24), 2, 4))
        self.assertLess(answer[-1], 0)

    def test_heights_of_nine_figures(self):
        for heights in ((999999999, -999999999), (-999999999, 999999999, 0), (999999999, 999999990)):
            self.look(told(("free", ()), *heights), (1, 24), 2, 4)
            self.look(told(("hold", (("hold", 0),)), *heights), (1, 4), 12, 12)
        self.assertEqual(
            turn_about(told(("hold", ()), 999999999, -999999999), window=(1, 4)), ("stay", 1999999998))

    def test_hold_comes_ahead_of_the_word(self):
        # By the word alone they would be farther apart than by holding first.
        flights = told(("sink", ()), 0, make=(4, 1, 1, 4)) + told(("climb", ()), 10, make=(4, 1, 1, 4))
        for held, late in ((1, 6), (0, 6), (6, 6)):
            self.look(flights, (7, 9), held, late)

    def test_the_kinds_of_the_answer(self):
        answer = turn_about(TOGETHER, window=(1, 12))
        self.assertEqual([type(part) for part in answer], [str, tuple, int])
        self.assertTrue(all(word in WORDS for word in answer[1]))
        holding = [dealt(flight, "hold", late=2) for flight in TOGETHER]
        self.assertTrue(all(is_flight(dealt(flight, "sink", late=4)) for flight in holding))

    def test_by_names(self):
        due = turn_about_by_words(TOGETHER, (2, 9), 3, 5)
        self.assertEqual(turn_about(late=5, held=3, window=(2, 9), flights=TOGETHER), due)
        self.assertEqual(turn_about(TOGETHER, held=3, late=5, window=(2, 9)), due)
        with self.assertRaises(TypeError):
            turn_about(TOGETHER, (2, 9))
        with self.assertRaises(TypeError):
            turn_about(TOGETHER)

    def test_the_same_whatever_was_asked_in_between(self):
        first = turn_about(TOGETHER, window=(1, 12))
        turn_about(TOGETHER[::-1], window=(3, 4), held=1, late=1)
        self.assertEqual(turn_about(TOGETHER, window=(1, 12)), first)

    def test_within_moments(self):
        began = time.monotonic()
        self.look(*LONGEST)
        self.assertLess(time.monotonic() - began, 10)


if __name__ == "__main__":
    unittest.main()
