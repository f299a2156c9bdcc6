"""Point 13, and points 2 and 3 as far as they speak of a post."""

import random
import unittest

from climborsink.errors import NoLetter
from climborsink.post import Post
from tests.books import LetterBook
from tests.things import OTHER_THINGS, WHOLE_NUMBERS

LETTERS = (
    (), ("tell", 1, 2, "climb"), ("got", 1, 2), (0,), ("",), (-999999999, "a" * 400), (1, "1"), ("tell", 3, 0, "free"))


def told_by(post):
    return (post.under_way(), len(post), bool(post))


class PostTest(unittest.TestCase):
    def look(self, post, book):
        under_way = post.under_way()
        self.assertIs(type(under_way), tuple)
        self.assertTrue(all(type(part) is tuple for part in under_way))
        self.assertEqual(under_way, book.under_way())
        self.assertEqual(len(post), len(book.here()))
        self.assertIs(bool(post), len(book.here()) > 0)

    def refuse(self, post, deed, thing):
        before = told_by(post)
        with self.assertRaises(NoLetter) as caught:
            getattr(post, deed)(thing)
        self.assertIs(type(caught.exception), NoLetter)
        self.assertEqual(repr(caught.exception.number), repr(thing))
        self.assertEqual(told_by(post), before)

    def do_one(self, chance, post, book):
        """One deed, or one refusal, told to both."""
        deed = chance.choice(("send", "send", "carry", "lose", "double"))
        number = chance.randrange(-1, len(book.came) + 2)
        if deed == "send":
            letter = chance.choice(LETTERS)
            self.assertEqual(post.send(letter), book.enter(letter))
        elif number not in book.here():
            self.refuse(post, deed, number)
        elif deed == "double":
            self.assertEqual(post.double(number), book.enter(book.came[number]))
        else:
            due = book.came[number] if deed == "carry" else None
            self.assertEqual(getattr(post, deed)(number), due)
            book.gone.add(number)

    def test_a_new_post(self):
        self.look(Post(), LetterBook())
        self.assertEqual(Post().under_way(), ())
        self.assertIs(bool(Post()), False)

    def test_deeds_in_any_order_against_a_plain_book(self):
        for seed in range(30):
            chance, post, book = random.Random(seed), Post(), LetterBook()
            for deed in range(80):
                self.do_one(chance, post, book)
                self.look(post, book)

    def test_a_thousand_deeds(self):
        chance, post, book = random.Random(71), Post(), LetterBook()
        for deed in range(1000):
            self.do_one(chance, post, book)
        self.look(post, book)

    def test_what_is_told_is_a_number(self):
        post = Post()
        told = [post.send(("a",)), post.send(("b",)), post.double(0), post.double(1)]
        self.assertEqual(told, [0, 1, 2, 3])
        self.assertEqual([type(number) for number in told], [int] * 4)
        self.assertIsNone(post.lose(2))
        self.assertEqual(post.carry(3), ("b",))

    def test_every_letter(self):
        post = Post()
        for number, letter in enumerate(LETTERS):
            self.assertEqual(post.send(letter), number)
        for number, letter in enumerate(LETTERS):
            self.assertEqual(repr(post.carry(number)), repr(letter))

    def test_a_letter_that_was_told(self):
        post = Post()
        post.send(LETTERS[1])
        self.assertEqual(post.send(post.carry(0)), 1)
        self.assertEqual(post.under_way(), ((1, LETTERS[1]),))

    def test_no_letter_of_numbers_gone_and_never_given(self):
        post = Post()
        for letter in LETTERS:
            post.send(letter)
        post.carry(2)
        post.lose(5)
        for number in (2, 5, -1, -8, len(LETTERS), 999999999, -999999999):
            for deed in ("carry", "lose", "double"):
                self.refuse(post, deed, number)

    def test_no_letter_of_other_things(self):
        empty, full = Post(), Post()
        full.send(("a",))
        full.send(("b",))
        things = OTHER_THINGS + ((0, 1), [1], ((0,),), "0", "1", (0, ("a",)), [[0]])
        for post in (empty, full):
            for thing in things:
                for deed in ("carry", "lose", "double"):
                    self.refuse(post, deed, thing)
        for number in WHOLE_NUMBERS:
            for deed in ("carry", "lose", "double"):
                self.refuse(empty, deed, number)

    def test_what_is_refused_changes_not_the_next_number(self):
        post = Post()
        self.refuse(post, "double", 0)
        self.refuse(post, "carry", True)
        self.assertEqual(post.send(()), 0)
        self.refuse(post, "double", True)
        self.assertEqual(post.send(()), 1)

    def test_a_list_that_was_told_and_is_changed_then(self):
        thing = [0, [1]]
        with self.assertRaises(NoLetter) as caught:
            Post().carry(thing)
        thing[1].append(2)
        self.assertEqual(caught.exception.number, [0, [1]])

    def test_doubled_letters_doubled_again(self):
        post = Post()
        post.send(("a", 1))
        self.assertEqual([post.double(0), post.double(1), post.double(2)], [1, 2, 3])
        post.carry(0)
        self.assertEqual(post.double(3), 4)
        self.assertEqual(post.under_way(), tuple((number, ("a", 1)) for number in (1, 2, 3, 4)))

    def test_the_next_number_goes_on_where_all_are_gone(self):
        post = Post()
        post.send(("a",))
        post.double(0)
        post.lose(0)
        post.carry(1)
        self.assertEqual(len(post), 0)
        self.assertEqual(post.send(("b",)), 2)

    def test_alike_behind_each_deed(self):
        one, other = Post(), Post()
        deeds = [
            ("send", ("a",)), ("send", ("b", 2)), ("double", 0), ("carry", 1), ("lose", 0), ("send", ()),
            ("carry", 2), ("lose", 3)]
        self.alike(one, other, True)
        for deed, thing in deeds:
            getattr(one, deed)(thing)
            self.alike(one, other, False)
            getattr(other, deed)(thing)
            self.alike(one, other, True)

    def alike(self, one, other, due):
        self.assertIs(one == other, due)
        self.assertIs(other == one, due)
        self.assertIs(one != other, not due)
        self.assertIs(other != one, not due)

    def test_other_deeds_that_leave_the_same_letters(self):
        one, other = Post(), Post()
        one.send(("a",))
        one.send(("a",))
        other.send(("a",))
        other.double(0)
        self.alike(one, other, True)
        one.carry(0)
        other.lose(0)
        self.alike(one, other, True)
        # The same letter under way with the same next number, by its other number.
        third = Post()
        third.send(("a",))
        third.double(0)
        third.lose(1)
        self.alike(one, third, False)

    def test_another_next_number(self):
        one, other = Post(), Post()
        one.send(("a",))
        other.send(("a",))
        other.send(("b",))
        other.lose(1)
        self.assertEqual(one.under_way(), other.under_way())
        self.alike(one, other, False)

    def test_an_emptied_one_beside_a_new_one(self):
        emptied = Post()
        emptied.send(("a",))
        emptied.carry(0)
        self.assertEqual(told_by(emptied), told_by(Post()))
        self.alike(emptied, Post(), False)
        again = Post()
        again.send(("b", 7))
        again.lose(0)
        self.alike(emptied, again, True)

    def test_other_letters(self):
        one, other = Post(), Post()
        one.send(("a", 1))
        other.send(("a", 2))
        self.alike(one, other, False)

    def test_things_that_are_no_post(self):
        post = Post()
        for letters in range(2):
            for thing in OTHER_THINGS + WHOLE_NUMBERS + (post.under_way(), {}, {0: ("a",)}, object(), Post):
                self.alike(post, thing, False)
            self.alike(post, post, True)
            post.send(("a",))

    def test_two_posts_told_by_turns(self):
        chance = random.Random(72)
        posts, books = (Post(), Post()), (LetterBook(), LetterBook())
        for deed in range(120):
            at = chance.randrange(2)
            self.do_one(chance, posts[at], books[at])
            for post, book in zip(posts, books):
                self.look(post, book)

    def test_what_was_told_stays_as_it_was(self):
        post = Post()
        post.send(("a",))
        post.send(("b",))
        first = post.under_way()
        kept = repr(first)
        post.carry(0)
        post.double(1)
        post.lose(1)
        self.assertEqual(repr(first), kept)

    def test_by_names(self):
        post = Post()
        self.assertEqual(post.send(letter=("a",)), 0)
        self.assertEqual(post.double(number=0), 1)
        self.assertEqual(post.carry(number=0), ("a",))
        self.assertIsNone(post.lose(number=1))
        for deed in ("carry", "lose", "double"):
            with self.assertRaises(NoLetter) as caught:
                getattr(post, deed)(number=1)
            self.assertEqual(caught.exception.number, 1)


if __name__ == "__main__":
    unittest.main()
