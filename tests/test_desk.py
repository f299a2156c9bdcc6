"""Point 23, and points 2 and 3 as far as they speak of a desk."""

import itertools
import random
import time
import unittest

from climborsink.desk import Desk
from climborsink.errors import NoLetter, NoMotion, NoRow, NoSky, NotAgreed, NoWords
from tests.books import Refused, SkyBook
from tests.oracle import DEALT_WORDS, best_by_words, orders_by_words, room_by_words
from tests.skies import fitting_rates, random_parts, random_words
from tests.things import OTHER_THINGS, WHOLE_NUMBERS

MAKE = (9, 4, 2, 5)
QUESTIONS = ("words", "heights", "rates", "turns", "phase", "post", "log")
NAMES = QUESTIONS + (
    "deal", "ask", "clear", "send", "carry", "lose", "double", "move", "best", "room", "parted")


def level_desk(*heights):
    return Desk((MAKE,) * len(heights), heights, (0,) * len(heights))


def joined(parts):
    return " ".join(str(part) for part in parts)


def book_tells(book, question):
    """What a desk answers to one of the questions, by a plain book of its sky."""
    if question == "words":
        return joined(book.words())
    if question == "heights":
        return joined(book.heights)
    if question == "rates":
        return joined(book.rates)
    if question == "turns":
        return joined(book.turns())
    if question == "phase":
        return f"{book.chief.phase} {book.steps()}"
    if question == "log":
        return str(len(book.log))
    return "; ".join(f"{number}: {joined(letter)}" for number, letter in book.post.under_way()) or "none"


def desk_tells(desk):
    return [desk.say(question) for question in QUESTIONS]


class DeskTest(unittest.TestCase):
    def look(self, desk, book):
        for question in QUESTIONS:
            self.assertEqual(desk.say(question), book_tells(book, question))

    def refuse(self, desk, row):
        before = desk_tells(desk)
        with self.assertRaises(NoRow) as caught:
            desk.say(row)
        self.assertIs(type(caught.exception), NoRow)
        self.assertEqual(repr(caught.exception.row), repr(row))
        self.assertEqual(desk_tells(desk), before, row)

    def refuse_by_sky(self, desk, row, error, fields):
        before = desk_tells(desk)
        with self.assertRaises(error) as caught:
            desk.say(row)
        self.assertIs(type(caught.exception), error)
        self.assertEqual(repr(vars(caught.exception)), repr(fields))
        self.assertEqual(desk_tells(desk), before, row)


def flights_of(book):
    return book.tells()["flights"]


class Rows(DeskTest):
    def test_a_new_desk(self):
        for many in (2, 3, 4):
            desk = level_desk(*(10, -20, 0, 999999999)[:many])
            self.assertEqual(desk_tells(desk), [
                joined(["free"] * many), joined((10, -20, 0, 999999999)[:many]), joined([0] * many), joined([0] * many),
                "clear 0", "none", "0"])

    def test_one_behind_another(self):
        desk = level_desk(0, 50, 90)
        for row, due in (
                ("send", "none"), ("deal sink climb hold", "ok"), ("words", "sink free free"), ("turns", "1 0 0"),
                ("phase", "dealt 0"), ("send", "0 1"), ("post", "0: tell 1 1 climb; 1: tell 2 1 hold"),
                ("double 1", "2"), ("carry 1", "ok"), ("post", "0: tell 1 1 climb; 2: tell 2 1 hold; 3: got 2 1"),
                ("turns", "1 0 1"), ("words", "sink free hold"), ("carry 3", "ok"), ("lose 2", "ok"), ("send", "4"),
                ("move -2 4 0", "ok"), ("heights", "-2 54 90"), ("rates", "-2 4 0"), ("phase", "dealt 1"),
                ("log", "9"), ("carry 0", "ok"), ("carry 5", "ok"), ("ask", "ok"), ("phase", "asking 1"),
                ("send", "6 7"), ("carry 6", "ok"), ("carry 7", "ok"), ("carry 8", "ok"), ("phase", "asking 1"),
                ("carry 9", "ok"), ("phase", "held 1"), ("words", "hold hold hold"), ("turns", "2 2 2"),
                ("clear", "ok"), ("words", "free hold hold"), ("phase", "clearing 1"), ("turns", "3 2 2"),
                ("post", "4: tell 1 1 climb"), ("log", "18")):
            told = desk.say(row)
            self.assertEqual((type(told), told), (str, due), row)

    def test_the_post_as_the_document_writes_it(self):
        desk = level_desk(0, 50, 90)
        for row in ("deal hold hold hold", "send", "carry 0", "carry 1", "carry 2", "carry 3", "ask", "send",
                    "lose 4", "carry 5"):
            desk.say(row)
        self.assertEqual(desk.say("post"), "6: got 2 2")
        desk.say("double 6")
        self.assertEqual(desk.say("send"), "8 9")
        self.assertEqual(desk.say("post"), "6: got 2 2; 7: got 2 2; 8: tell 1 2 hold; 9: tell 2 2 hold")

    def random_row(self, chance, book):
        """(row, the deed's name, its arguments, how the answer is written)."""
        many, numbers = len(book.makes), book.post.here() + [-1, 999999999]
        name = chance.choice(("deal", "ask", "clear", "send", "send") + ("carry",) * 5 + ("lose", "double", "move", "move"))
        if name in ("ask", "clear", "send"):
            return name, name, ()
        if name == "deal":
            words = random_words(chance, many)
            return f"deal {joined(words)}", name, (words,)
        if name == "move":
            rates = fitting_rates(chance, book)
            if chance.random() < 0.2:
                rates = tuple(chance.choice((rate, 99, -999999999, 0)) for rate in rates)
            return f"move {joined(rates)}", name, (rates,)
        number = chance.choice(numbers)
        return f"{name} {number}", name, (number,)

    def test_rows_in_any_order_against_a_plain_book(self):
        met = set()
        for seed in range(18):
            chance = random.Random(seed)
            parts = random_parts(chance, 2 + seed % 3)
            desk, book = Desk(*parts), SkyBook(*parts)
            for said in range(120):
                row, name, arguments = self.random_row(chance, book)
                met.add((name, self.say_both(desk, book, row, name, arguments)))
                self.look(desk, book)
        self.assertEqual({name for name, told in met if told == "NoLetter"}, {"carry", "lose", "double"})
        self.assertEqual({name for name, told in met if told == "NotAgreed"}, {"deal", "ask", "clear"})
        self.assertEqual({name for name, told in met if told == "NoMotion"}, {"move"})
        self.assertEqual(
            {name for name, told in met if told == "told"},
            {"deal", "ask", "clear", "send", "carry", "lose", "double", "move"})

    def say_both(self, desk, book, row, name, arguments):
        try:
            due = getattr(book, name)(*arguments)
        except Refused as refused:
            error = {"NoLetter": NoLetter, "NotAgreed": NotAgreed, "NoMotion": NoMotion}[refused.name]
            self.refuse_by_sky(desk, row, error, refused.fields)
            return refused.name
        if name == "send":
            due = joined(due) or "none"
        self.assertEqual(desk.say(row), "ok" if due is None else str(due))
        return "told"

    def test_what_the_sky_refuses_comes_through(self):
        desk = level_desk(0, 50)
        self.refuse_by_sky(desk, "ask", NotAgreed, {"now": "clear", "missing": ()})
        self.refuse_by_sky(desk, "clear", NotAgreed, {"now": "clear", "missing": ()})
        for row in ("carry 0", "lose 0", "double 0"):
            self.refuse_by_sky(desk, row, NoLetter, {"number": 0})
        for number in (-1, 999999999, -999999999):
            self.refuse_by_sky(desk, f"carry {number}", NoLetter, {"number": number})
        desk.say("deal climb sink")
        self.refuse_by_sky(desk, "deal climb sink", NotAgreed, {"now": "dealt", "missing": (1,)})
        self.refuse_by_sky(desk, "move 0 0", NoMotion, {"place": 0, "by": "climb"})
        self.refuse_by_sky(desk, "move 2 -999999999", NoMotion, {"place": 1, "by": "free"})

    def test_no_row_is_ahead_of_what_the_sky_refuses(self):
        desk = level_desk(0, 50)
        desk.say("deal climb sink")
        for row in ("deal climb", "deal climb free", "move 99", "move 99 99 99", "move 99 +99", "ask 1", "carry 01"):
            self.refuse(desk, row)

    def test_two_desks_by_turns(self):
        chance = random.Random(171)
        parts = [random_parts(chance, 2), random_parts(chance, 4)]
        desks, books = [Desk(*part) for part in parts], [SkyBook(*part) for part in parts]
        for said in range(120):
            at = chance.randrange(2)
            self.say_both(desks[at], books[at], *self.random_row(chance, books[at]))
            for desk, book in zip(desks, books):
                self.look(desk, book)

    def test_heights_beyond_nine_figures_are_told(self):
        desk = Desk(((9, 4, 1, 9),) * 2, (999999999, -999999999), (9, -9))
        for step in range(10):
            desk.say("move 9 -9")
        self.assertEqual(desk.say("heights"), "1000000089 -1000000089")
        self.assertEqual(desk.say("parted 1 2 0 1000000").split()[-3:], ["order", "0", "1"])

    def test_no_sky(self):
        for parts, due in (
                ((None, (0, 0), (0, 0)), "makes"), (((MAKE, MAKE), (0,), (0, 0)), "heights"),
                (((MAKE, MAKE), (0, 0), (0, 10)), "rates"), (((MAKE,), (0,), (0,)), "makes"),
                (([MAKE, MAKE], [0, 0], [0, 0]), "makes"), (((MAKE, MAKE), (0, True), None), "heights")):
            with self.assertRaises(NoSky) as caught:
                Desk(*parts)
            self.assertEqual(caught.exception.part, due)

    def test_by_names(self):
        desk = Desk(rates=(0, 1), heights=(5, 6), makes=(MAKE, MAKE))
        self.assertEqual(desk.say(row="heights"), "5 6")
        self.assertEqual(desk.say(row="rates"), "0 1")
        with self.assertRaises(NoRow) as caught:
            desk.say(row=None)
        self.assertIsNone(caught.exception.row)


class Flights(DeskTest):
    """best, room and parted, which are asked of the sky's flights."""

    def desks(self, seed, many):
        """Desks behind some deeds, with their books."""
        chance = random.Random(seed)
        for at in range(many):
            makes, heights, rates = random_parts(chance, 2 + at % 3)
            heights = tuple(height * chance.choice((1, 4)) for height in heights)
            desk, book = Desk(makes, heights, rates), SkyBook(makes, heights, rates)
            words = random_words(chance, len(makes))
            for row, name, arguments in (
                    (f"deal {joined(words)}", "deal", (words,)), ("send", "send", ()), ("carry 0", "carry", (0,))):
                desk.say(row)
                getattr(book, name)(*arguments)
            moved = fitting_rates(chance, book)
            desk.say(f"move {joined(moved)}")
            book.move(moved)
            first = chance.randint(1, 24)
            yield desk, book, (first, chance.randint(first, 24)), chance.randint(0, 12)

    def test_best_and_room(self):
        chance = random.Random(172)
        for desk, book, window, late in self.desks(173, 15):
            before = desk_tells(desk)
            words, found = best_by_words(flights_of(book), window, late)
            self.assertEqual(desk.say(f"best {joined(window)} {late}"), f"{joined(words)} {found}")
            for words in (words, random_words(chance, len(words)), random_words(chance, len(words))):
                due = room_by_words(flights_of(book), words, window, late)
                self.assertEqual(desk.say(f"room {joined(window)} {late} {joined(words)}"), str(due))
            self.assertEqual(desk_tells(desk), before)

    def look_parted(self, desk, book, window, late, miss):
        told = desk.say(f"parted {joined(window)} {late} {miss}")
        flights = flights_of(book)
        if told == "none":
            self.assertLess(best_by_words(flights, window, late)[1], miss)
            return told
        words, order = [part.split(" ") for part in told.split(" order ")]
        self.assertEqual(told, f"{joined(words)} order {joined(order)}")
        self.assertTrue(set(words) <= set(DEALT_WORDS) and len(words) == len(flights))
        places = tuple(int(place) for place in order)
        self.assertIn(places, orders_by_words(flights, tuple(words), window, late, miss))
        return "dealt"

    def test_parted(self):
        told = []
        for desk, book, window, late in self.desks(174, 15):
            found = best_by_words(flights_of(book), window, late)[1]
            for miss in (1, found - 1, found, found + 1, 1000000):
                if 1 <= miss <= 1000000:
                    told.append(self.look_parted(desk, book, window, late, miss))
        self.assertGreater(told.count("dealt"), 5)
        self.assertGreater(told.count("none"), 10)

    def test_as_the_document_writes_them(self):
        desk = level_desk(10, 0)
        desk.say("deal hold hold")
        desk.say("send")
        desk.say("carry 0")
        self.assertEqual(desk.say("best 5 5 2"), "climb sink 32")
        self.assertEqual(desk.say("room 5 5 2 climb sink"), "32")
        self.assertEqual(desk.say("room 1 5 12 hold hold"), "10")
        self.assertEqual(desk.say("room 5 5 0 climb climb"), "-8")
        self.assertEqual(desk.say("parted 5 5 2 32"), "climb sink order 0 1")
        self.assertEqual(desk.say("parted 5 5 2 33"), "none")
        self.assertEqual(level_desk(0, 50).say("parted 1 1 0 40").split(" ")[-3:], ["order", "1", "0"])

    def test_windows_late_and_miss_at_their_bounds(self):
        desk = level_desk(10, 2000000)
        for window in itertools.product((-1, 0, 1, 2, 24, 25), repeat=2):
            for late in (-1, 0, 12, 13):
                for miss in (-1, 0, 1, 1000000, 1000001):
                    due = 1 <= window[0] <= window[1] <= 24 and 0 <= late <= 12
                    rows = [f"parted {joined(window)} {late} {miss}"]
                    if miss == 1:
                        rows += [f"best {joined(window)} {late}", f"room {joined(window)} {late} hold climb"]
                    for row in rows:
                        if due and 1 <= miss <= 1000000:
                            self.assertNotEqual(desk.say(row), "")
                        else:
                            self.refuse(desk, row)

    def test_within_moments(self):
        desk = Desk(((9, 4, 1, 5),) * 4, (0, 1500, -1500, 700), (3, -3, 9, -9))
        began = time.monotonic()
        for row in ("best 1 24 12", "room 1 24 12 climb hold sink climb", "parted 1 24 12 1", "parted 1 24 12 1000000"):
            desk.say(row)
        self.assertLess(time.monotonic() - began, 10)


class NoRows(DeskTest):
    def desk(self):
        """A desk of two craft with a letter of each number from 0 to 9 under way but 1."""
        desk = level_desk(0, 50)
        desk.say("deal hold climb")
        for at in range(10):
            desk.say("send")
        desk.say("lose 1")
        return desk

    def right_rows(self):
        return (
            "deal climb sink", "ask", "clear", "send", "carry 2", "lose 2", "double 2", "move 0 3", "words", "heights",
            "rates", "turns", "phase", "post", "log", "best 1 2 0", "room 1 2 0 climb sink", "parted 1 2 0 1")

    def test_no_text_at_all(self):
        desk = self.desk()
        for thing in OTHER_THINGS + WHOLE_NUMBERS + (["ask"], ("ask",), ["carry 2"], [["words"]], b"ask"):
            self.refuse(desk, thing)

    def test_every_row_is_told_of_here(self):
        self.assertEqual({row.split(" ")[0] for row in self.right_rows()}, set(NAMES))

    def test_a_word_more_less_or_doubled(self):
        desk = self.desk()
        for row in self.right_rows():
            words = row.split(" ")
            for more in ("climb", "0", "1", "none", "ok", "ask", ";", "~"):
                for at in range(len(words) + 1):
                    self.refuse(desk, " ".join(words[:at] + [more] + words[at:]))
            for at in range(len(words)):
                self.refuse(desk, " ".join(words[:at] + words[at + 1:]))
                self.refuse(desk, " ".join(words[:at] + words[at:at + 1] + words[at:]))

    def test_blanks(self):
        desk = self.desk()
        for row in self.right_rows():
            self.refuse(desk, " " + row)
            self.refuse(desk, row + " ")
            self.refuse(desk, "  " + row)
            for at, sign in enumerate(row):
                if sign == " ":
                    self.refuse(desk, row[:at] + " " + row[at:])
                    self.refuse(desk, row[:at] + row[at + 1:])
                    self.refuse(desk, row[:at] + "," + row[at + 1:])
        for row in ("", " ", "  ", "   "):
            self.refuse(desk, row)

    def test_names_put_otherwise(self):
        desk = self.desk()
        for row in self.right_rows():
            name, blank, rest = row.partition(" ")
            for other in (name.upper(), name.title(), name + "s", name[:-1], name + ".", "-" + name, "`" + name + "`"):
                if other not in NAMES:
                    self.refuse(desk, other + blank + rest)
        for row in ("deals climb sink", "say ask", "step", "agreed", "notes", "flights", "under_way", "deed", "order"):
            self.refuse(desk, row)

    def test_words_that_are_none(self):
        desk = level_desk(0, 50)
        for word in ("free", "Climb", "CLIMB", "climbs", "up", "0", "climb,", "none"):
            self.refuse(desk, f"deal {word} sink")
            self.refuse(desk, f"deal sink {word}")
            self.refuse(desk, f"room 1 2 0 {word} sink")
            self.refuse(desk, f"room 1 2 0 sink {word}")

    def test_as_many_as_there_are_craft(self):
        for many in (2, 3, 4):
            for count in range(7):
                desk = level_desk(*range(0, many * 100, 100))
                rows = ["deal" + " hold" * count, "move" + " 1" * count, "room 1 2 0" + " hold" * count]
                for row in reversed(rows):
                    if count == many:
                        desk.say(row) if not row.startswith("move") else desk.say("move" + " 0" * many)
                    else:
                        self.refuse(desk, row)

    def test_numbers_otherwise_written(self):
        desk = self.desk()
        wrong = (
            "02", "002", "+2", "-02", "--2", "-", "", "2.0", "2.", "1e0", "0x2", "2_0", "2-", "two", "-0", "00", "+0",
            "0000000002", "1000000000", "-1000000000", "9999999999", "2,", "(2)", "^2", "2;", "2x", "x")
        for text in wrong:
            for row in (
                    f"carry {text}", f"lose {text}", f"double {text}", f"move {text} 3", f"move 0 {text}",
                    f"best {text} 2 0", f"best 1 {text} 0", f"best 1 2 {text}", f"room {text} 2 0 hold hold",
                    f"room 1 {text} 0 hold hold", f"room 1 2 {text} hold hold", f"parted {text} 2 0 1",
                    f"parted 1 {text} 0 1", f"parted 1 2 {text} 1", f"parted 1 2 0 {text}"):
                self.refuse(desk, row)

    def test_signs_that_are_figures_elsewhere(self):
        desk = self.desk()
        for text in ("\u00b2", "\u0662", "\uff12", "2\n", "\t2", "2\u00a0"):
            self.refuse(desk, f"carry {text}")
            self.refuse(desk, f"move 0 {text}")

    def test_numbers_rightly_written(self):
        desk = self.desk()
        for text in ("1", "10", "999999999", "-1", "-999999999"):
            self.refuse_by_sky(desk, f"carry {text}", NoLetter, {"number": int(text)})
        self.assertEqual(desk.say("carry 0"), "ok")
        self.assertEqual(desk.say("move 0 3"), "ok")
        self.refuse_by_sky(desk, "move 999999999 -999999999", NoMotion, {"place": 0, "by": "hold"})

    def test_a_list_that_was_told_and_is_changed_then(self):
        row = ["ask", ["x"]]
        with self.assertRaises(NoRow) as caught:
            self.desk().say(row)
        row[1].append("y")
        self.assertEqual(caught.exception.row, ["ask", ["x"]])

    def test_words_are_never_refused_by_the_sky(self):
        # What the desk takes for words is what the sky takes for words.
        for words in itertools.product(DEALT_WORDS, repeat=3):
            desk = level_desk(0, 50, 100)
            try:
                self.assertEqual(desk.say(f"deal {joined(words)}"), "ok")
            except NoWords:
                self.fail(words)


if __name__ == "__main__":
    unittest.main()
