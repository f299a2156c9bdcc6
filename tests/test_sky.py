"""Points 17 to 20, and points 2 and 3 as far as they speak of a sky."""

import itertools
import random
import unittest

from climborsink.dealing import best, order_of, room
from climborsink.errors import NoDeed, NoLetter, NoMotion, NoSky, NotAgreed, NoWords
from climborsink.sky import Sky
from tests.books import SkyBook
from tests.oracle import dealt_by_words, is_flights_motion, rates_let_by
from tests.skies import (
    QUESTIONS, ask_book, ask_sky, fitting_rates, random_deed, random_log_of_sky, random_parts, random_words, tells)
from tests.things import OTHER_THINGS, WHOLE_NUMBERS, put_otherwise

MAKES = ((9, 4, 2, 5), (5, 2, 1, 3), (7, 3, 3, 7), (1, 1, 1, 1))
HEIGHTS = (100, -20, 0, 999999999)
RATES = (0, 5, -7, 1)


def parts_for(many):
    return (MAKES[:many], HEIGHTS[:many], RATES[:many])


def new_sky(many=2):
    return Sky(*parts_for(many))


def level_sky(*heights, make=(9, 4, 2, 5)):
    return Sky((make,) * len(heights), heights, (0,) * len(heights))


def is_tuple_with(thing, many, fits):
    return type(thing) is tuple and len(thing) == many and all(fits(part) for part in thing)


def is_number(thing):
    return type(thing) is int


def is_make_by_words(thing):
    if not is_tuple_with(thing, 4, is_number):
        return False
    most, change, haste, goal = thing
    return 1 <= most <= 9 and 1 <= change <= 4 and 1 <= haste <= change and 1 <= goal <= most


def wrong_part(makes, heights, rates):
    if type(makes) is not tuple or not 2 <= len(makes) <= 4 or not all(is_make_by_words(make) for make in makes):
        return "makes"
    if not is_tuple_with(heights, len(makes), is_number):
        return "heights"
    if not is_tuple_with(rates, len(makes), is_number):
        return "rates"
    if any(abs(rate) > make[0] for rate, make in zip(rates, makes)):
        return "rates"
    return None


class SkyMade(unittest.TestCase):
    def look(self, makes, heights, rates):
        due = wrong_part(makes, heights, rates)
        if due is None:
            self.assertEqual(Sky(makes, heights, rates).heights(), heights)
            return
        with self.assertRaises(NoSky) as caught:
            Sky(makes, heights, rates)
        self.assertIs(type(caught.exception), NoSky)
        self.assertEqual(caught.exception.part, due)

    def test_a_new_sky(self):
        for many in (2, 3, 4):
            makes, heights, rates = parts_for(many)
            sky = Sky(makes, heights, rates)
            self.assertEqual(repr(tells(sky)), repr({
                "is_busy": False, "notes": [], "step": 0, "heights": heights, "rates": rates,
                "words": ("free",) * many, "turns": (0,) * many,
                "flights": tuple(zip(makes, heights, rates, (("free", ()),) * many)),
                "phase": "clear", "agreed": tuple(range(1, many)), "under_way": (), "log": ()}))
            self.assertEqual((len(sky), bool(sky)), (0, False))
            self.assertEqual(str(sky), " ".join(str(height) for height in heights))
            self.assertEqual(repr(sky), f"Sky of {many}, step 0")
            with self.assertRaises(NoDeed):
                sky.deed()

    def test_one_part_bent_at_any_place(self):
        for many in (2, 3, 4):
            parts = parts_for(many)
            for thing in (None, True, False, "1", 0, -1, 10, 5, (), [], (0,), list(MAKES[:many]), MAKES[0]):
                for bent in put_otherwise(parts, thing):
                    if type(bent) is tuple and len(bent) == 3:
                        self.look(*bent)

    def test_any_things(self):
        makes, heights, rates = parts_for(3)
        for thing in OTHER_THINGS + WHOLE_NUMBERS:
            self.look(thing, heights, rates)
            self.look(makes, thing, rates)
            self.look(makes, heights, thing)
            self.look(thing, thing, thing)
            self.look(makes, thing, thing)

    def test_lists_in_the_place_of_tuples(self):
        makes, heights, rates = parts_for(2)
        self.look(list(makes), heights, rates)
        self.look(makes, list(heights), rates)
        self.look(makes, heights, list(rates))
        self.look((list(makes[0]), makes[1]), heights, rates)

    def test_unlike_lengths_too_few_and_too_many(self):
        makes, heights, rates = MAKES + MAKES, (0,) * 8, (0,) * 8
        for counts in itertools.product(range(7), repeat=3):
            self.look(makes[:counts[0]], heights[:counts[1]], rates[:counts[2]])

    def test_rates_at_the_bounds_of_their_makes(self):
        for many in (2, 3, 4):
            for signs in itertools.product((-1, 1), repeat=many):
                rates = tuple(sign * make[0] for sign, make in zip(signs, MAKES))
                self.look(MAKES[:many], HEIGHTS[:many], rates)
                for place in range(many):
                    beyond = rates[:place] + (rates[place] + signs[place],) + rates[place + 1:]
                    self.look(MAKES[:many], HEIGHTS[:many], beyond)

    def test_the_first_wrong_part(self):
        makes, heights, rates = parts_for(2)
        for wrong in itertools.product((False, True), repeat=3):
            told = [None if bad else part for bad, part in zip(wrong, (makes, heights, rates))]
            self.look(*told)
        # Heights are as many as makes, whatever the rates are.
        self.look(makes, heights + (0,), rates + (0,))

    def test_by_names_in_any_order(self):
        makes, heights, rates = parts_for(3)
        self.assertEqual(Sky(rates=rates, makes=makes, heights=heights), Sky(makes, heights, rates))
        with self.assertRaises(NoSky) as caught:
            Sky(rates=None, heights=None, makes=makes)
        self.assertEqual(caught.exception.part, "heights")


class Deeds(unittest.TestCase):
    def look(self, sky, book):
        self.assertEqual(repr(tells(sky)), repr(book.tells()))
        self.assertEqual((len(sky), bool(sky)), (len(book.log), book.log != []))
        self.assertEqual(str(sky), " ".join(str(height) for height in book.heights))
        self.assertEqual(repr(sky), f"Sky of {len(book.makes)}, step {book.steps()}")

    def do_both(self, sky, book, name, *arguments):
        told, due = ask_sky(sky, name, arguments), ask_book(book, name, arguments)
        self.assertEqual(repr(told), repr(due), (name, arguments))
        self.look(sky, book)
        return told

    def test_deeds_in_any_order_against_a_plain_book(self):
        met = set()
        for seed in range(36):
            chance = random.Random(seed)
            parts = random_parts(chance, 2 + seed % 3)
            sky, book = Sky(*parts), SkyBook(*parts)
            for deed in range(140):
                name, arguments = random_deed(chance, book)
                told = self.do_both(sky, book, name, *arguments)
                met.add((name, told[0] if told[0] == "told" else told[1]))
        deeds = ("deal", "ask", "clear", "send", "carry", "lose", "double", "move")
        refusals = {
            ("deal", "NoWords"), ("deal", "NotAgreed"), ("ask", "NotAgreed"), ("clear", "NotAgreed"),
            ("carry", "NoLetter"), ("lose", "NoLetter"), ("double", "NoLetter"), ("move", "NoMotion")}
        self.assertEqual(met, {(name, "told") for name in deeds} | refusals)

    def test_a_thousand_deeds(self):
        chance = random.Random(101)
        sky, book = random_log_of_sky(chance, 4, 1000)
        self.look(sky, book)
        self.assertEqual(len(sky), 1000)

    def test_one_behind_another(self):
        sky = level_sky(0, 50, 90)
        self.assertEqual(sky.send(), ())
        self.assertIsNone(sky.deal(("sink", "climb", "hold")))
        self.assertEqual((sky.words(), sky.turns(), sky.phase()), (("sink", "free", "free"), (1, 0, 0), "dealt"))
        self.assertEqual(sky.send(), (0, 1))
        self.assertEqual(sky.double(1), 2)
        self.assertIsNone(sky.carry(1))
        self.assertEqual(sky.under_way(), (
            (0, ("tell", 1, 1, "climb")), (2, ("tell", 2, 1, "hold")), (3, ("got", 2, 1))))
        self.assertEqual((sky.words(), sky.turns(), sky.agreed()), (("sink", "free", "hold"), (1, 0, 1), ()))
        self.assertIsNone(sky.carry(3))
        self.assertEqual(sky.agreed(), (2,))
        self.assertIsNone(sky.lose(0))
        self.assertEqual(sky.send(), (4,))
        self.assertIsNone(sky.move((-2, 4, 0)))
        self.assertEqual((sky.step(), sky.heights(), sky.rates()), (1, (-2, 54, 90), (-2, 4, 0)))
        self.assertEqual(sky.log(), (
            ("send", ()), ("deal", ("sink", "climb", "hold")), ("send", (0, 1)), ("double", 1, 2), ("carry", 1),
            ("carry", 3), ("lose", 0), ("send", (4,)), ("move", (-2, 4, 0))))
        self.assertEqual((str(sky), repr(sky), len(sky)), ("-2 54 90", "Sky of 3, step 1", 9))

    def test_a_letter_that_is_told_twice_is_answered_twice(self):
        sky = new_sky()
        sky.deal(("hold", "hold"))
        sky.send()
        sky.send()
        sky.carry(0)
        sky.carry(1)
        self.assertEqual(sky.under_way(), ((2, ("got", 1, 1)), (3, ("got", 1, 1))))
        sky.carry(2)
        sky.carry(3)
        self.assertEqual((sky.agreed(), sky.under_way()), ((1,), ()))

    def test_an_old_letter_is_not_answered(self):
        sky = new_sky()
        sky.deal(("hold", "sink"))
        sky.send()
        old = sky.double(0)
        sky.carry(0)
        sky.carry(2)
        sky.clear()
        sky.send()
        sky.carry(3)
        sky.carry(old)
        self.assertEqual((sky.under_way(), sky.words()), (((4, ("got", 1, 2)),), ("free", "free")))

    def test_refusals_with_their_fields(self):
        sky = new_sky(4)
        for deed in ("ask", "clear"):
            with self.assertRaises(NotAgreed) as caught:
                getattr(sky, deed)()
            self.assertEqual(vars(caught.exception), {"now": "clear", "missing": ()})
        sky.deal(("climb", "sink", "hold", "sink"))
        with self.assertRaises(NotAgreed) as caught:
            sky.deal(("climb", "sink", "hold", "sink"))
        self.assertEqual(vars(caught.exception), {"now": "dealt", "missing": (1, 2, 3)})
        # NoWords is ahead of NotAgreed.
        with self.assertRaises(NoWords) as caught:
            sky.deal(["climb"])
        self.assertEqual(vars(caught.exception), {"told": ["climb"]})
        for deed in ("carry", "lose", "double"):
            for thing in OTHER_THINGS + WHOLE_NUMBERS:
                with self.assertRaises(NoLetter) as caught:
                    getattr(sky, deed)(thing)
                self.assertEqual(repr(caught.exception.number), repr(thing))
        self.assertEqual(sky.log(), (("deal", ("climb", "sink", "hold", "sink")),))

    def test_heights_grow_beyond_nine_figures(self):
        sky = Sky(((9, 4, 1, 9),) * 2, (999999999, -999999999), (9, -9))
        for step in range(100):
            sky.move((9, -9))
        self.assertEqual(sky.heights(), (1000000899, -1000000899))
        again = Sky(((9, 4, 1, 9),) * 2, sky.heights(), sky.rates())
        self.assertEqual(again.heights(), sky.heights())
        self.assertEqual(best(sky.flights(), window=(1, 1), late=0), best(again.flights(), window=(1, 1), late=0))

    def test_two_skies_told_by_turns(self):
        chance = random.Random(102)
        parts = [random_parts(chance, 3), random_parts(chance, 2)]
        skies, books = [Sky(*part) for part in parts], [SkyBook(*part) for part in parts]
        for deed in range(150):
            at = chance.randrange(2)
            name, arguments = random_deed(chance, books[at])
            self.do_both(skies[at], books[at], name, *arguments)
            self.look(skies[1 - at], books[1 - at])

    def test_what_was_told_stays_as_it_was(self):
        chance = random.Random(103)
        sky, book = random_log_of_sky(chance, 3, 40)
        first = tells(sky)
        kept = repr(first)
        for deed in range(40):
            name, arguments = random_deed(chance, book)
            self.do_both(sky, book, name, *arguments)
        self.assertEqual(repr(first), kept)

    def test_by_names(self):
        sky = new_sky()
        sky.deal(words=("hold", "sink"))
        sky.send()
        self.assertEqual(sky.double(number=0), 1)
        sky.carry(number=0)
        sky.lose(number=1)
        sky.move(rates=(0, 4))
        sky.move_by(asked=lambda place, height, rate, word: (0, 3)[place])
        self.assertEqual(sky.deed(at=0), ("deal", ("hold", "sink")))
        self.assertEqual(len(sky), 7)


class Move(unittest.TestCase):
    def sky(self):
        """Words hold, climb, sink: from the rates 0, 0, -9 one may go to 0, to 2..4, and to -9..-5."""
        sky = Sky(((9, 4, 2, 5),) * 3, (10, 20, 30), (0, 0, -9))
        sky.deal(("hold", "climb", "sink"))
        sky.send()
        sky.carry(0)
        sky.carry(1)
        return sky

    def refuse(self, sky, thing, place, word):
        before = repr((tells(sky), len(sky)))
        with self.assertRaises(NoMotion) as caught:
            sky.move(thing)
        self.assertIs(type(caught.exception), NoMotion)
        self.assertEqual(vars(caught.exception), {"place": place, "by": word})
        self.assertEqual(repr((tells(sky), len(sky))), before)

    def test_all_rates(self):
        due = {0: (0,), 1: (2, 3, 4), 2: (-9, -8, -7, -6, -5)}
        for place, word in enumerate(("hold", "climb", "sink")):
            for rate in range(-11, 12):
                sky = self.sky()
                rates = [0, 3, -7]
                rates[place] = rate
                if rate in due[place]:
                    sky.move(tuple(rates))
                    self.assertEqual(sky.heights(), (10 + rates[0], 20 + rates[1], 30 + rates[2]))
                else:
                    self.refuse(sky, tuple(rates), place, word)

    def test_other_things_in_the_place_of_a_rate(self):
        sky = self.sky()
        for thing in OTHER_THINGS + (999999999, -999999999):
            self.refuse(sky, (thing, 3, -7), 0, "hold")
            self.refuse(sky, (0, thing, -7), 1, "climb")
            self.refuse(sky, (0, 3, thing), 2, "sink")

    def test_truths_where_the_number_would_fit(self):
        sky = new_sky()
        self.refuse(sky, (True, 5), 0, "free")
        self.refuse(sky, (False, 5), 0, "free")
        self.refuse(sky, (1, True), 1, "free")

    def test_no_tuple_of_so_many(self):
        sky = self.sky()
        for thing in OTHER_THINGS + WHOLE_NUMBERS + ((0, 3), (0, 3, -7, 0), [0, 3, -7], "0 3 -7", ((0, 3, -7),)):
            if type(thing) is not tuple or len(thing) != 3:
                self.refuse(sky, thing, None, None)

    def test_two_wrong_ones_at_once(self):
        sky = self.sky()
        self.refuse(sky, (1, 1, -7), 0, "hold")
        self.refuse(sky, (0, 1, 0), 1, "climb")
        self.refuse(sky, (None, True, []), 0, "hold")

    def test_by_the_word_that_it_has_by_now(self):
        sky = Sky(((9, 4, 4, 9),) * 2, (0, 0), (0, 0))
        sky.deal(("climb", "sink"))
        # The other one hasn't heard yet, and is free.
        sky.move((4, 4))
        sky.send()
        self.refuse(sky, (7, 4), 0, "climb")
        sky.carry(0)
        self.refuse(sky, (8, 4), 1, "sink")
        sky.move((8, 0))
        self.assertEqual(sky.heights(), (12, 4))

    def test_makes_at_their_bounds(self):
        sky = Sky(((1, 4, 1, 1), (9, 1, 1, 1)), (0, 0), (1, 9))
        self.refuse(sky, (2, 9), 0, "free")
        self.refuse(sky, (-2, 9), 0, "free")
        self.refuse(sky, (1, 10), 1, "free")
        self.refuse(sky, (1, 7), 1, "free")
        sky.move((-1, 8))
        self.assertEqual(sky.rates(), (-1, 8))


class OwnError(Exception):
    pass


class MoveBy(unittest.TestCase):
    def look_ended(self, sky, notes):
        self.assertIs(sky.is_busy(), False)
        self.assertEqual(sky.notes(), notes)

    def test_asked_once_for_each_in_order_of_places(self):
        for many in (2, 3, 4):
            sky, asked = new_sky(many), []

            def stay(place, height, rate, word):
                asked.append((place, height, rate, word))
                return rate

            self.assertIsNone(sky.move_by(stay))
            self.assertEqual(asked, [(place, HEIGHTS[place], RATES[place], "free") for place in range(many)])
            self.assertEqual(sky.heights(), tuple(HEIGHTS[place] + RATES[place] for place in range(many)))
            self.assertEqual((sky.step(), sky.rates()), (1, RATES[:many]))
            self.assertEqual(sky.log(), (("move", RATES[:many]),))
            self.look_ended(sky, ["begin", "end"])

    def test_a_lambda(self):
        sky = level_sky(0, 10)
        sky.deal(("climb", "sink"))
        sky.move_by(lambda place, height, rate, word: 3 if word == "climb" else -height // 10)
        self.assertEqual((sky.heights(), sky.deed()), ((3, 9), ("move", (3, -1))))

    def test_against_a_plain_book(self):
        chance = random.Random(104)
        for seed in range(12):
            sky, book = random_log_of_sky(chance, 2 + seed % 3, 20)
            for move in range(25):
                rates = fitting_rates(chance, book)
                if chance.random() < 0.4:
                    rates = tuple(chance.choice((rate, 9, -9, True, None, "0", [1])) for rate in rates)
                told = ask_sky(sky, "move_by", (lambda place, height, rate, word: rates[place],))
                due = ask_book(book, "move_by", (lambda place, height, rate, word: rates[place],))
                self.assertEqual(repr(told), repr(due))
                self.assertEqual(repr(tells(sky)), repr(book.tells()))
                name, arguments = random_deed(chance, book)
                self.assertEqual(repr(ask_sky(sky, name, arguments)), repr(ask_book(book, name, arguments)))

    def refuse(self, sky, asked, error):
        before = tells(sky)
        with self.assertRaises(error) as caught:
            sky.move_by(asked)
        self.assertIs(type(caught.exception), error)
        self.look_ended(sky, before["notes"] + ["begin", "end"])
        before["notes"] += ["begin", "end"]
        self.assertEqual(repr(tells(sky)), repr(before))
        return caught.exception

    def test_a_wrong_rate(self):
        sky = new_sky(3)
        error = self.refuse(sky, lambda place, height, rate, word: rate + 9 * (place == 2) * 2, NoMotion)
        self.assertEqual(vars(error), {"place": 2, "by": "free"})
        error = self.refuse(sky, lambda place, height, rate, word: 99, NoMotion)
        self.assertEqual(vars(error), {"place": 0, "by": "free"})

    def test_another_thing(self):
        sky = new_sky(2)
        for thing in OTHER_THINGS:
            error = self.refuse(sky, lambda place, height, rate, word: thing if place else rate, NoMotion)
            self.assertEqual(vars(error), {"place": 1, "by": "free"})

    def test_an_error_of_its_own_comes_through(self):
        sky = new_sky(3)
        for error in (
                OwnError, ValueError, KeyError, IndexError, TypeError, StopIteration, RuntimeError, ZeroDivisionError,
                AttributeError, KeyboardInterrupt, GeneratorExit, NoLetter, NoMotion):
            for at in range(3):
                made = error(1, "sink") if error is NoMotion else error("x")

                def fail(place, height, rate, word):
                    if place == at:
                        raise made
                    return rate

                self.assertIs(self.refuse(sky, fail, error), made)

    def test_a_wrong_rate_and_an_error_at_once(self):
        def fail(place, height, rate, word):
            if place == 1:
                raise OwnError
            return 99

        self.refuse(new_sky(3), fail, OwnError)

    def test_all_are_asked_where_the_first_tells_a_wrong_rate(self):
        asked = []

        def wrong(place, height, rate, word):
            asked.append(place)
            return None

        error = self.refuse(new_sky(4), wrong, NoMotion)
        self.assertEqual((asked, error.place), ([0, 1, 2, 3], 0))

    def test_busy_while_it_is_asked_and_never_else(self):
        sky, seen = new_sky(2), []

        def look(place, height, rate, word):
            seen.append((sky.is_busy(), sky.notes()))
            return rate

        self.assertIs(sky.is_busy(), False)
        sky.move((0, 5))
        self.look_ended(sky, [])
        sky.move_by(look)
        self.look_ended(sky, ["begin", "end"])
        sky.move_by(look)
        self.assertEqual(seen, [(True, ["begin"])] * 2 + [(True, ["begin", "end", "begin"])] * 2)
        self.look_ended(sky, ["begin", "end", "begin", "end"])

    def test_what_the_sky_tells_while_it_is_asked(self):
        chance = random.Random(105)
        sky, book = random_log_of_sky(chance, 4, 60)
        before, rates, seen = tells(sky), fitting_rates(chance, book), []
        before.update({"is_busy": True, "notes": ["begin"]})

        def look(place, height, rate, word):
            seen.append((repr(tells(sky)), len(sky), str(sky), repr(sky), sky.deed(), sky == sky))
            sky.notes().append("what is done to it changes nothing")
            return rates[place]

        due = (repr(before), len(sky), str(sky), repr(sky), sky.deed(), True)
        sky.move_by(look)
        self.assertEqual(seen, [due] * 4)
        self.assertEqual(sky.deed(), ("move", rates))

    def test_another_sky_isnt_busy(self):
        one, other = new_sky(2), new_sky(2)

        def look(place, height, rate, word):
            self.assertEqual((one.is_busy(), other.is_busy(), other.notes()), (True, False, []))
            return rate

        one.move_by(look)
        self.look_ended(other, [])

    def test_each_list_of_notes_is_new(self):
        sky = new_sky(2)
        sky.move_by(lambda place, height, rate, word: rate)
        first = sky.notes()
        first.append("x")
        self.assertEqual(sky.notes(), ["begin", "end"])
        second = sky.notes()
        sky.move_by(lambda place, height, rate, word: rate)
        self.assertEqual((first, second), (["begin", "end", "x"], ["begin", "end"]))


class LogAndLikeness(unittest.TestCase):
    def test_deeds_by_their_places(self):
        chance = random.Random(106)
        for deeds in (0, 1, 2, 17):
            sky, book = random_log_of_sky(chance, 3, deeds)
            for at in list(range(-deeds - 3, deeds + 3)) + [999999999, -999999999]:
                if -deeds <= at < deeds:
                    self.assertEqual(sky.deed(at), book.log[at])
                    continue
                with self.assertRaises(NoDeed) as caught:
                    sky.deed(at)
                self.assertEqual(vars(caught.exception), {"at": at, "deeds": deeds})
                self.assertEqual(sky.log(), tuple(book.log))
            if deeds:
                self.assertEqual(sky.deed(), book.log[-1])

    def test_no_deed_of_a_new_sky(self):
        with self.assertRaises(NoDeed) as caught:
            new_sky().deed()
        self.assertEqual(vars(caught.exception), {"at": -1, "deeds": 0})

    def alike(self, one, other, due):
        self.assertIs(one == other, due)
        self.assertIs(other == one, due)
        self.assertIs(one != other, not due)
        self.assertIs(other != one, not due)

    def test_alike_behind_each_deed(self):
        chance = random.Random(107)
        for many in (2, 3, 4):
            parts = random_parts(chance, many)
            one, other, book = Sky(*parts), Sky(*parts), SkyBook(*parts)
            self.alike(one, other, True)
            for deed in range(80):
                name, arguments = random_deed(chance, book)
                ask_sky(one, name, arguments)
                due = ask_book(book, name, arguments)
                self.alike(one, other, due[0] == "refused")
                ask_sky(other, name, arguments)
                self.alike(one, other, True)

    def test_another_make_height_or_rate_at_first(self):
        parts = parts_for(2)
        others = (
            (((9, 4, 2, 6), MAKES[1]), *parts[1:]), (parts[0], (101, -20), parts[2]), (*parts[:2], (0, 4)),
            parts_for(3))
        for other in others:
            self.alike(Sky(*parts), Sky(*other), False)
        # The same by now, but not at first.
        one, other = Sky(parts[0], (0, 0), (1, 1)), Sky(parts[0], (1, 0), (0, 1))
        one.move((1, 1))
        other.move((1, 1))
        self.alike(one, other, False)

    def test_the_same_log_by_other_ways(self):
        one, other = new_sky(2), new_sky(2)
        one.move((1, 4))
        other.move_by(lambda place, height, rate, word: (1, 4)[place])
        self.alike(one, other, True)
        ask_sky(one, "ask", ())
        ask_sky(one, "carry", (0,))
        ask_sky(one, "move", ((9, 9),))
        self.alike(one, other, True)
        self.assertNotEqual(one.notes(), other.notes())

    def test_deeds_that_change_nothing_but_the_log(self):
        one, other = new_sky(2), new_sky(2)
        one.send()
        self.assertEqual(one.under_way(), other.under_way())
        self.alike(one, other, False)

    def test_things_that_are_no_sky(self):
        sky = new_sky(2)
        for thing in OTHER_THINGS + WHOLE_NUMBERS + (str(sky), repr(sky), sky.log(), {}, object(), Sky):
            self.alike(sky, thing, False)
        self.alike(sky, sky, True)

    def test_len_and_truth(self):
        sky = new_sky(2)
        self.assertIs(bool(sky), False)
        sky.send()
        self.assertEqual((len(sky), bool(sky)), (1, True))

    def test_every_question_is_told_of_here(self):
        self.assertEqual(
            sorted(QUESTIONS), sorted(SkyBook(*parts_for(2)).tells()))


class HeardInTime(unittest.TestCase):
    """Point 18, and the end of point 3."""

    def dealing(self, chance, many, span):
        """A sky at the phase clear or held, behind deeds at random, its craft far apart by some span."""
        makes, heights, rates = random_parts(chance, many)
        heights = tuple(place * span + chance.randint(0, 20) for place in chance.sample(range(many), many))
        sky, book = Sky(makes, heights, rates), SkyBook(makes, heights, rates)
        for deed in range(chance.randrange(30)):
            name, arguments = random_deed(chance, book, 0)
            if name != "move":
                ask_sky(sky, name, arguments)
                ask_book(book, name, arguments)
        while sky.phase() not in ("clear", "held"):
            self.settle(sky)
            if sky.phase() == "dealt":
                chance.choice((sky.ask, sky.clear))()
        return sky

    def settle(self, sky):
        sky.send()
        while sky.under_way():
            sky.carry(sky.under_way()[0][0])

    def hear(self, sky, places):
        """The letters to these are carried; the others stay under way."""
        for number, letter in sky.under_way():
            if letter[0] == "tell" and letter[1] in places:
                sky.carry(number)

    def fly(self, chance, sky, late, steps, pick):
        heard = {place: chance.randint(0, late) for place in range(1, len(sky.heights()))}
        sky.send()
        moves, heights = [], []
        for step in range(1, steps + 1):
            self.hear(sky, [place for place in heard if heard[place] == step - 1])
            sky.move_by(pick)
            moves.append(sky.rates())
            heights.append(sky.heights())
        return moves, heights

    def test_the_moves_are_motions_of_the_dealt_flights(self):
        chance, apart = random.Random(108), 0
        for run in range(60):
            many = 2 + run % 3
            sky = self.dealing(chance, many, chance.choice((30, 120, 400)))
            makes = [flight[0] for flight in sky.flights()]
            flights, late = sky.flights(), chance.randint(0, 12)
            window = (chance.randint(1, 24), 24)
            words = chance.choice((best(flights, window=window, late=late)[0], random_words(chance, many)))
            sky.deal(words)
            low = chance.choice(("low", "high", "any", "meet"))

            def pick(place, height, rate, word):
                rates = rates_let_by(makes[place], word, rate)
                if low == "any":
                    return chance.choice(rates)
                if low == "meet":
                    return rates[0] if height > sum(sky.heights()) / many else rates[-1]
                return rates[0] if low == "low" else rates[-1]

            moves, heights = self.fly(chance, sky, late, 24, pick)
            for place, flight in enumerate(flights):
                motion = tuple(rates[place] for rates in moves)
                self.assertTrue(is_flights_motion(dealt_by_words(flight, words[place], late), motion))
            apart += self.look_apart(flights, words, window, late, heights)
        self.assertGreater(apart, 20)

    def look_apart(self, flights, words, window, late, heights):
        due = room(flights, words, window=window, late=late)
        if due < 1:
            return False
        order = order_of(flights, words, window=window, late=late)
        for step in range(window[0], window[1] + 1):
            for upper, lower in zip(order, order[1:]):
                self.assertGreaterEqual(heights[step - 1][upper] - heights[step - 1][lower], due)
        return True

    def test_heard_at_the_latest_ahead_of_the_move_behind_late(self):
        # Just in time it is a motion, one move later it is none.
        for late in (0, 1, 5):
            for wait, due in ((late, True), (late + 1, False)):
                sky = Sky(((9, 1, 1, 9),) * 2, (0, 0), (0, 0))
                flight = sky.flights()[1]
                sky.deal(("hold", "climb"))
                sky.send()
                moves = []
                for step in range(1, 9):
                    if step == wait + 1:
                        sky.carry(0)
                    sky.move_by(lambda place, height, rate, word: rate + 1 if word == "climb" else 0)
                    moves.append(sky.rates()[1])
                told = is_flights_motion(dealt_by_words(flight, "climb", late), tuple(moves))
                self.assertIs(told, due)


if __name__ == "__main__":
    unittest.main()
