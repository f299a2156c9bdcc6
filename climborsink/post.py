"""A post: letters under way, by their numbers, in the order in which they came."""

from climborsink.errors import NoLetter
from climborsink.kinds import is_whole


class Post:
    def __init__(self):
        self.held = {}
        self.next_number = 0

    def is_under_way(self, number):
        # A truth is found under the number 0 or 1, and a list can't be looked for at all.
        return is_whole(number) and number in self.held

    def send(self, letter):
        number = self.next_number
        self.held[number] = letter
        self.next_number += 1
        return number

    def carry(self, number):
        if not self.is_under_way(number):
            raise NoLetter(number)
        return self.held.pop(number)

    def lose(self, number):
        if not self.is_under_way(number):
            raise NoLetter(number)
        del self.held[number]

    def double(self, number):
        if not self.is_under_way(number):
            raise NoLetter(number)
        return self.send(self.held[number])

    def under_way(self):
        # The dict keeps the order in which they came, and that is the order of their numbers.
        return tuple([(number, self.held[number]) for number in self.held])

    def __eq__(self, other):
        return isinstance(other, Post) and self.held == other.held and self.next_number == other.next_number

    def __len__(self):
        return len(self.held)
