"""Points 14 and 15, and point 2 as far as it speaks of a chief and those who follow."""

import itertools
import random
import unittest

from climborsink.chief import Chief, Follower
from climborsink.errors import NotAgreed, NoWords
from tests.books import PHASES, ChiefBook, FollowerBook
from tests.oracle import DEALT_WORDS, FOUR_WORDS, all_words
from tests.things import OTHER_THINGS, WHOLE_NUMBERS, nested, put_otherwise

DEEDS = ("deal", "ask", "clear")
WORDS = ("sink", "climb", "hold", "climb")


def told_by(chief):
    return (chief.turn(), chief.phase(), chief.word(), chief.agreed(), chief.letters())


def book_tells(book):
    return (book.turn, book.phase, book.word, book.agreed(), book.letters())


def no_words(many):
    """Things that are no words for so many craft."""
    words = WORDS[:many]
    found = [words[:-1], words + ("hold",), (), words[:1], list(words), " ".join(words), (words,), [words]]
    found += [("climb",) * count for count in range(7) if count != many]
    for place in range(many):
        for word in ("free", "", "Climb", "climb ", 0, 1, True, False, None, ("climb",), ["climb"], []):
            found.append(words[:place] + (word,) + words[place + 1:])
    found += [bent for thing in (None, [], nested(7, "climb")) for bent in put_otherwise(words, thing)]
    return found + list(OTHER_THINGS) + list(WHOLE_NUMBERS)


def answer(chief, place):
    return chief.hear(("got", place, chief.turn()))


def at_phase(many, phase, agreed=None):
    """A chief at a phase, and its book; those told have agreed where it is dealt, asking or clearing."""
    chief, book = Chief(many), ChiefBook(many)

    def do(deed, places=range(1, many)):
        words = (WORDS[:many],) if deed == "deal" else ()
        getattr(chief, deed)(*words)
        book.do(deed, *words)
        for place in places:
            answer(chief, place)
            book.hear(("got", place, book.turn))

    agreed = range(1, many) if agreed is None else agreed
    if phase == "clear":
        return chief, book
    if phase == "dealt":
        do("deal", agreed)
        return chief, book
    do("deal")
    if phase == "clearing":
        do("clear", agreed)
        return chief, book
    do("ask", agreed if phase == "asking" else range(1, many))
    return chief, book


def everywhere():
    """Chiefs of two to four craft at each phase, with each of the ways in which some have agreed."""
    for many in (2, 3, 4):
        for phase in PHASES:
            if phase in ("clear", "held"):
                yield at_phase(many, phase)
                continue
            for count in range(many):
                for agreed in itertools.combinations(range(1, many), count):
                    if phase == "dealt" or count < many - 1:
                        yield at_phase(many, phase, agreed)


class ChiefTest(unittest.TestCase):
    def look(self, chief, book):
        self.assertEqual(repr(told_by(chief)), repr(book_tells(book)))

    def refuse(self, chief, deed, *words):
        before = told_by(chief)
        with self.assertRaises(NotAgreed) as caught:
            getattr(chief, deed)(*words)
        self.assertIs(type(caught.exception), NotAgreed)
        self.assertEqual(told_by(chief), before)
        return (caught.exception.now, caught.exception.missing)

    def refuse_words(self, chief, thing):
        before = told_by(chief)
        with self.assertRaises(NoWords) as caught:
            chief.deal(thing)
        self.assertIs(type(caught.exception), NoWords)
        self.assertEqual(repr(caught.exception.told), repr(thing))
        self.assertEqual(told_by(chief), before)

    def test_a_new_chief(self):
        for many in (2, 3, 4):
            self.assertEqual(told_by(Chief(many)), (0, "clear", "free", tuple(range(1, many)), ()))
            self.assertIs(Chief(many).hear(("got", 1, 0)), False)

    def test_all_phases_are_met(self):
        self.assertEqual({chief.phase() for chief, book in everywhere()}, set(PHASES))

    def test_every_deed_everywhere(self):
        for deed in DEEDS:
            for chief, book in everywhere():
                self.look(chief, book)
                words = (WORDS[:book.many][::-1],) if deed == "deal" else ()
                if book.may(deed):
                    self.assertIsNone(getattr(chief, deed)(*words))
                    book.do(deed, *words)
                else:
                    self.assertEqual(self.refuse(chief, deed, *words), (book.phase, book.missing()))
                self.look(chief, book)

    def test_which_deeds_are_done(self):
        done = set()
        for chief, book in everywhere():
            for deed in DEEDS:
                done.add((book.phase, book.all_agreed(), deed, book.may(deed)))
        self.assertEqual(
            {part[:3] for part in done if part[3]},
            {("clear", True, "deal"), ("held", True, "deal"), ("dealt", True, "ask"), ("dealt", True, "clear"),
             ("held", True, "clear")})

    def test_the_fields_of_not_agreed(self):
        chief, book = at_phase(4, "dealt", (2,))
        self.assertEqual(self.refuse(chief, "ask"), ("dealt", (1, 3)))
        self.assertEqual(self.refuse(chief, "clear"), ("dealt", (1, 3)))
        self.assertEqual(self.refuse(chief, "deal", WORDS), ("dealt", (1, 3)))
        chief, book = at_phase(4, "dealt")
        self.assertEqual(self.refuse(chief, "deal", WORDS), ("dealt", ()))
        self.assertEqual(self.refuse(Chief(2), "ask"), ("clear", ()))
        self.assertEqual(self.refuse(Chief(3), "clear"), ("clear", ()))
        chief, book = at_phase(3, "held")
        self.assertEqual(self.refuse(chief, "ask"), ("held", ()))
        chief, book = at_phase(3, "asking", (1,))
        self.assertEqual([self.refuse(chief, deed) for deed in ("ask", "clear")], [("asking", (2,))] * 2)

    def test_answers_everywhere(self):
        for chief, book in everywhere():
            for turn in range(book.turn + 1):
                for place in range(1, book.many):
                    for time in range(2):
                        letter = ("got", place, turn)
                        told = chief.hear(letter)
                        self.assertIs(told, book.hear(letter))
                        self.look(chief, book)

    def test_phases_and_words_one_behind_another(self):
        chief = Chief(3)
        chief.deal(("climb", "sink", "hold"))
        self.assertEqual(told_by(chief), (1, "dealt", "climb", (), (("tell", 1, 1, "sink"), ("tell", 2, 1, "hold"))))
        self.assertIs(answer(chief, 2), True)
        self.assertEqual(told_by(chief), (1, "dealt", "climb", (2,), (("tell", 1, 1, "sink"),)))
        self.assertIs(answer(chief, 1), True)
        self.assertEqual(told_by(chief), (1, "dealt", "climb", (1, 2), ()))
        chief.ask()
        self.assertEqual(told_by(chief), (2, "asking", "climb", (), (("tell", 1, 2, "hold"), ("tell", 2, 2, "hold"))))
        self.assertIs(answer(chief, 1), True)
        self.assertEqual(told_by(chief), (2, "asking", "climb", (1,), (("tell", 2, 2, "hold"),)))
        self.assertIs(answer(chief, 1), False)
        self.assertIs(chief.hear(("got", 2, 1)), False)
        self.assertIs(answer(chief, 2), True)
        self.assertEqual(told_by(chief), (2, "held", "hold", (1, 2), ()))
        chief.deal(("sink", "hold", "climb"))
        self.assertEqual(told_by(chief), (3, "dealt", "sink", (), (("tell", 1, 3, "hold"), ("tell", 2, 3, "climb"))))
        answer(chief, 1)
        answer(chief, 2)
        chief.clear()
        self.assertEqual(told_by(chief), (4, "clearing", "free", (), (("tell", 1, 4, "free"), ("tell", 2, 4, "free"))))
        answer(chief, 2)
        self.assertEqual(told_by(chief), (4, "clearing", "free", (2,), (("tell", 1, 4, "free"),)))
        answer(chief, 1)
        self.assertEqual(told_by(chief), (4, "clear", "free", (1, 2), ()))

    def test_held_and_then_clear(self):
        chief, book = at_phase(2, "held")
        chief.clear()
        self.assertEqual(told_by(chief), (3, "clearing", "free", (), (("tell", 1, 3, "free"),)))
        answer(chief, 1)
        self.assertEqual(told_by(chief), (3, "clear", "free", (1,), ()))

    def test_every_words_that_are_dealt(self):
        for many in (2, 3, 4):
            for words in all_words(many):
                chief = Chief(many)
                self.assertIsNone(chief.deal(words))
                self.assertEqual(chief.word(), words[0])
                self.assertEqual(
                    chief.letters(), tuple(("tell", place, 1, words[place]) for place in range(1, many)))

    def test_no_words_at_every_phase(self):
        for chief, book in everywhere():
            for thing in no_words(book.many):
                self.refuse_words(chief, thing)
            self.look(chief, book)

    def test_a_list_that_was_told_and_is_changed_then(self):
        thing = ["climb", ["sink"]]
        with self.assertRaises(NoWords) as caught:
            Chief(2).deal(thing)
        thing[1].append("hold")
        self.assertEqual(caught.exception.told, ["climb", ["sink"]])

    def test_deeds_and_answers_in_any_order(self):
        chance, turns = random.Random(81), 0
        for at in range(30):
            many = 2 + at % 3
            chief, book = Chief(many), ChiefBook(many)
            for deed in range(120):
                name = chance.choice(DEEDS + ("hear",) * 4)
                if name == "hear":
                    letter = ("got", chance.randrange(1, many), max(0, book.turn - chance.choice((0, 0, 0, 1, 2))))
                    self.assertIs(chief.hear(letter), book.hear(letter))
                else:
                    words = (tuple(chance.choice(DEALT_WORDS) for place in range(many)),) if name == "deal" else ()
                    if book.may(name):
                        self.assertIsNone(getattr(chief, name)(*words))
                        book.do(name, *words)
                    else:
                        self.assertEqual(self.refuse(chief, name, *words), (book.phase, book.missing()))
                self.look(chief, book)
            turns += book.turn
        self.assertGreater(turns, 200)

    def test_two_chiefs_share_nothing(self):
        one, other = Chief(3), Chief(3)
        one.deal(("climb", "sink", "hold"))
        self.assertEqual(told_by(other), told_by(Chief(3)))
        other.deal(("hold", "hold", "hold"))
        answer(other, 1)
        self.assertEqual(one.agreed(), ())
        self.assertEqual(one.letters()[0], ("tell", 1, 1, "sink"))

    def test_what_was_told_stays_as_it_was(self):
        chief, book = at_phase(4, "asking", (2,))
        first = told_by(chief)
        kept = repr(first)
        answer(chief, 1)
        answer(chief, 3)
        chief.deal(WORDS)
        self.assertEqual(repr(first), kept)

    def test_by_names(self):
        chief = Chief(many=2)
        chief.deal(words=("hold", "sink"))
        self.assertEqual(chief.letters(), (("tell", 1, 1, "sink"),))
        self.assertIs(chief.hear(letter=("got", 1, 1)), True)
        with self.assertRaises(NoWords) as caught:
            chief.deal(words=None)
        self.assertIsNone(caught.exception.told)


class FollowerTest(unittest.TestCase):
    def look(self, follower, book):
        self.assertEqual((follower.turn(), follower.word()), (book.turn, book.word))

    def test_a_new_one(self):
        for place in (1, 2, 3):
            self.look(Follower(place), FollowerBook(place))
            self.assertEqual((Follower(place).turn(), Follower(place).word()), (0, "free"))

    def test_letters_of_other_places(self):
        for place, other in itertools.permutations((1, 2, 3), 2):
            follower = Follower(place)
            for turn in (0, 1, 999999999):
                for word in FOUR_WORDS:
                    self.assertIsNone(follower.hear(("tell", other, turn, word)))
                    self.assertEqual((follower.turn(), follower.word()), (0, "free"))

    def test_greater_equal_and_lesser_turns(self):
        for place in (1, 2, 3):
            for first, word, later in itertools.product((0, 3), FOUR_WORDS, FOUR_WORDS):
                for turn in (0, 2, 3, 4, 999999999):
                    follower, book = Follower(place), FollowerBook(place)
                    for letter in (("tell", place, first, word), ("tell", place, turn, later)):
                        self.assertEqual(repr(follower.hear(letter)), repr(book.hear(letter)))
                        self.look(follower, book)

    def test_one_by_one(self):
        follower = Follower(2)
        self.assertEqual(follower.hear(("tell", 2, 0, "climb")), ("got", 2, 0))
        self.assertEqual((follower.turn(), follower.word()), (0, "free"))
        self.assertEqual(follower.hear(("tell", 2, 5, "climb")), ("got", 2, 5))
        self.assertEqual((follower.turn(), follower.word()), (5, "climb"))
        self.assertEqual(follower.hear(("tell", 2, 5, "sink")), ("got", 2, 5))
        self.assertEqual((follower.turn(), follower.word()), (5, "climb"))
        self.assertIsNone(follower.hear(("tell", 2, 4, "sink")))
        self.assertEqual((follower.turn(), follower.word()), (5, "climb"))
        self.assertIsNone(follower.hear(("tell", 1, 6, "sink")))
        self.assertEqual((follower.turn(), follower.word()), (5, "climb"))
        self.assertEqual(follower.hear(("tell", 2, 6, "hold")), ("got", 2, 6))
        self.assertEqual((follower.turn(), follower.word()), (6, "hold"))

    def test_letters_in_any_order_and_often(self):
        chance = random.Random(82)
        for at in range(40):
            place = 1 + at % 3
            follower, book = Follower(place), FollowerBook(place)
            for heard in range(60):
                letter = (
                    "tell", chance.choice((1, 2, 3, place, place)), max(0, book.turn + chance.randint(-2, 2)),
                    chance.choice(FOUR_WORDS))
                told = follower.hear(letter)
                self.assertEqual(repr(told), repr(book.hear(letter)))
                self.look(follower, book)

    def test_two_share_nothing(self):
        one, other = Follower(1), Follower(1)
        one.hear(("tell", 1, 3, "sink"))
        self.assertEqual((other.turn(), other.word()), (0, "free"))

    def test_by_names(self):
        follower = Follower(place=3)
        self.assertEqual(follower.hear(letter=("tell", 3, 1, "hold")), ("got", 3, 1))


if __name__ == "__main__":
    unittest.main()
