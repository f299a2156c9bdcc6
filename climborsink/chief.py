"""The chief, who deals words to the others and changes them, and those who follow."""

from climborsink.dealing import are_words
from climborsink.errors import NotAgreed, NoWords


class Chief:
    def __init__(self, many):
        self.many = many
        self.at_turn = 0
        self.at_phase = "clear"
        self.own_word = "free"
        self.told_words = ("free",) * many
        self.missing = ()

    def turn(self):
        return self.at_turn

    def phase(self):
        return self.at_phase

    def word(self):
        return self.own_word

    def agreed(self):
        return tuple([place for place in range(1, self.many) if place not in self.missing])

    def begin_turn(self, phase, words):
        self.at_turn += 1
        self.at_phase = phase
        self.told_words = words
        self.missing = tuple(range(1, self.many))

    def deal(self, words):
        if not are_words(words, self.many):
            raise NoWords(words)
        if self.at_phase not in ("clear", "held"):
            raise NotAgreed(self.at_phase, self.missing)
        self.begin_turn("dealt", words)
        self.own_word = words[0]

    def is_dealt_to_all(self):
        return self.at_phase == "dealt" and self.missing == ()

    def ask(self):
        if not self.is_dealt_to_all():
            raise NotAgreed(self.at_phase, self.missing)
        self.begin_turn("asking", ("hold",) * self.many)

    def clear(self):
        if self.at_phase != "held" and not self.is_dealt_to_all():
            raise NotAgreed(self.at_phase, self.missing)
        self.begin_turn("clearing", ("free",) * self.many)
        self.own_word = "free"

    def letters(self):
        return tuple([("tell", place, self.at_turn, self.told_words[place]) for place in self.missing])

    def hear(self, letter):
        name, place, turn = letter
        if turn != self.at_turn or place not in self.missing:
            return False
        self.missing = tuple([other for other in self.missing if other != place])
        if self.missing == ():
            self.end_turn()
        return True

    def end_turn(self):
        if self.at_phase == "asking":
            self.at_phase = "held"
            self.own_word = "hold"
        elif self.at_phase == "clearing":
            self.at_phase = "clear"


class Follower:
    def __init__(self, place):
        self.place = place
        self.heard = 0
        self.own_word = "free"

    def turn(self):
        return self.heard

    def word(self):
        return self.own_word

    def hear(self, letter):
        name, place, turn, word = letter
        if place != self.place or turn < self.heard:
            return None
        # A letter of the turn heard is answered once more, as the answer may be lost, but its word isn't taken.
        if turn > self.heard:
            self.heard = turn
            self.own_word = word
        return ("got", place, turn)
