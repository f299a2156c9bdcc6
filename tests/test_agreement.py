"""Point 16: agreement, whatever is done with the letters, and point 3 as far as it speaks of words and a post."""

import random
import unittest

from climborsink.chief import Chief, Follower
from climborsink.errors import NotAgreed
from climborsink.post import Post
from tests.oracle import DEALT_WORDS


class Together:
    """A chief, those who follow and a post, and a book of which dealing each one's word came by."""

    def __init__(self, many):
        self.many = many
        self.chief = Chief(many)
        self.others = [Follower(place) for place in range(1, many)]
        self.post = Post()
        # The dealing's turn behind which the words of each turn stand.
        self.dealing = {0: 0}
        self.chief_by = 0

    def do(self, deed, words=()):
        before = [self.chief.turn()] + [other.turn() for other in self.others]
        getattr(self.chief, deed)(*words)
        turn = self.chief.turn()
        self.dealing[turn] = turn if deed == "deal" else self.dealing[turn - 1]
        if deed == "deal":
            self.chief_by = turn
        return before

    def send(self):
        return [self.post.send(letter) for letter in self.chief.letters()]

    def carry(self, number):
        letter = self.post.carry(number)
        if letter[0] == "got":
            self.chief.hear(letter)
            return
        for other in self.others:
            # Each one hears it; to those to whom it isn't told it is nothing.
            answer = other.hear(letter)
            if answer is not None:
                self.post.send(answer)

    def numbers(self):
        return [number for number, letter in self.post.under_way()]

    def dealings_at_once(self):
        """The dealings by which those who climb or sink have their words."""
        found = {self.dealing[other.turn()] for other in self.others if other.word() in ("climb", "sink")}
        if self.chief.word() in ("climb", "sink"):
            found.add(self.chief_by)
        return found


class Agreement(unittest.TestCase):
    def look(self, craft):
        turn = craft.chief.turn()
        for other in craft.others:
            self.assertIn(other.turn(), (turn, turn - 1))
        self.assertLessEqual(len(craft.dealings_at_once()), 1)
        for place in craft.chief.agreed():
            self.assertEqual(craft.others[place - 1].turn(), turn)

    def try_deed(self, chance, craft):
        deed = chance.choice(("deal", "ask", "clear"))
        words = (tuple(chance.choice(DEALT_WORDS) for place in range(craft.many)),) if deed == "deal" else ()
        try:
            before = craft.do(deed, words)
        except NotAgreed:
            return False
        # It was done only where the others had all heard the turn.
        self.assertEqual(before, [before[0]] * craft.many)
        return True

    def one(self, chance, craft, weights):
        kind = chance.choices(("deed", "send", "carry", "lose", "double"), weights)[0]
        if kind == "deed":
            return self.try_deed(chance, craft)
        if kind == "send":
            craft.send()
        elif craft.numbers():
            number = chance.choice(craft.numbers())
            if kind == "carry":
                craft.carry(number)
            else:
                getattr(craft.post, kind)(number)
        return False

    def run_on(self, seed, many, weights, steps):
        chance, craft, done = random.Random(seed), Together(many), 0
        self.look(craft)
        for step in range(steps):
            done += self.one(chance, craft, weights)
            self.look(craft)
        return craft, done

    def settle(self, craft):
        """Each letter of the chief is carried, and each answer."""
        craft.send()
        while craft.numbers():
            craft.carry(craft.numbers()[0])
            self.look(craft)

    def test_letters_lost_doubled_delayed_and_carried_in_any_order(self):
        deeds = 0
        for seed in range(24):
            for weights in ((2, 3, 6, 1, 1), (3, 3, 4, 4, 3), (1, 2, 9, 0, 2), (2, 2, 3, 0, 1)):
                craft, done = self.run_on(seed, 2 + seed % 3, weights, 300)
                deeds += done
        self.assertGreater(deeds, 500)

    def test_with_all_letters_carried_all_agree(self):
        for seed in range(24):
            for weights in ((2, 3, 6, 1, 1), (3, 3, 4, 4, 3)):
                craft, done = self.run_on(seed, 2 + seed % 3, weights, 60)
                self.settle(craft)
                self.assertEqual(craft.chief.agreed(), tuple(range(1, craft.many)))
                self.assertEqual(craft.chief.letters(), ())
                self.assertIn(craft.chief.phase(), ("clear", "dealt", "held"))

    def test_each_new_turn_is_agreed_to_where_its_letters_come(self):
        chance = random.Random(91)
        for many in (2, 3, 4):
            craft = Together(many)
            for deed in range(60):
                while not self.try_deed(chance, craft):
                    self.look(craft)
                self.assertEqual(craft.chief.agreed(), ())
                self.settle(craft)
                self.assertEqual(craft.chief.agreed(), tuple(range(1, many)))
            self.assertEqual(craft.chief.turn(), 60)

    def test_no_deed_where_no_letter_comes(self):
        chance = random.Random(92)
        for many in (2, 3, 4):
            craft = Together(many)
            craft.do("deal", (("climb",) * many,))
            for at in range(40):
                for number in craft.send():
                    craft.post.lose(number)
                self.assertIs(self.try_deed(chance, craft), False)
                self.look(craft)

    def test_an_old_letter_that_comes_late_changes_nothing(self):
        craft = Together(2)
        craft.do("deal", (("climb", "sink"),))
        late = craft.post.double(craft.send()[0])
        craft.carry(0)
        craft.carry(2)
        craft.do("ask")
        self.settle_but(craft, late)
        self.assertEqual((craft.chief.phase(), craft.others[0].word()), ("held", "hold"))
        craft.do("deal", (("sink", "climb"),))
        self.settle_but(craft, late)
        self.assertEqual(craft.others[0].word(), "climb")
        craft.carry(late)
        self.assertEqual((craft.others[0].turn(), craft.others[0].word()), (3, "climb"))
        self.assertEqual(craft.numbers(), [])

    def settle_but(self, craft, late):
        craft.send()
        while craft.numbers() != [late]:
            craft.carry([number for number in craft.numbers() if number != late][0])
            self.look(craft)


if __name__ == "__main__":
    unittest.main()
