"""Point 2: what a whole number is, and what is asked of any thing."""

import unittest

from climborsink.kinds import is_same, is_text, is_tuple_of, is_whole, is_whole_within, own_copy
from tests.things import OTHER_THINGS, WHOLE_NUMBERS, put_otherwise


class Kinds(unittest.TestCase):
    def test_whole_numbers(self):
        for number in WHOLE_NUMBERS:
            self.assertIs(is_whole(number), True, number)
        for thing in OTHER_THINGS:
            self.assertIs(is_whole(thing), False, thing)

    def test_whole_within(self):
        for number in range(-5, 6):
            self.assertIs(is_whole_within(number, -2, 3), -2 <= number <= 3, number)
        for thing in OTHER_THINGS:
            self.assertIs(is_whole_within(thing, -2, 3), False, thing)

    def test_texts(self):
        for thing in OTHER_THINGS + WHOLE_NUMBERS:
            self.assertIs(is_text(thing), type(thing) is str, thing)

    def test_tuples_of_so_many(self):
        for thing in OTHER_THINGS + WHOLE_NUMBERS:
            for many in range(6):
                self.assertIs(is_tuple_of(thing, many), type(thing) is tuple and len(thing) == many, thing)

    def test_a_copy_is_equal_and_of_the_same_kinds(self):
        for thing in OTHER_THINGS + WHOLE_NUMBERS:
            self.assertEqual(repr(own_copy(thing)), repr(thing))

    def test_a_copy_shares_no_list(self):
        inner = [1]
        thing = [inner, ((inner,), [inner])]
        copied = own_copy(thing)
        inner.append(2)
        thing.append(3)
        self.assertEqual(copied, [[1], (([1],), [[1]])])

    def test_the_same_in_all_its_parts(self):
        told = ("double", 0, (1, ("climb", 2), ()))
        self.assertIs(is_same(told, ("double", 0, (1, ("climb", 2), ()))), True)
        for thing in OTHER_THINGS + WHOLE_NUMBERS:
            for bent in put_otherwise(told, thing):
                self.assertIs(is_same(told, bent), repr(told) == repr(bent), bent)


if __name__ == "__main__":
    unittest.main()
