"""Points 14 and 15 of the document written out anew as plain books, to look at chiefs and followers.

Nothing here is imported from the program.
"""

PHASES = ("clear", "dealt", "asking", "held", "clearing")


class ChiefBook:
    def __init__(self, many):
        self.many = many
        self.turn = 0
        self.phase = "clear"
        self.word = "free"
        self.dealt = None
        self.has_agreed = {place: True for place in range(1, many)}

    def all_agreed(self):
        return all(self.has_agreed.values())

    def agreed(self):
        return tuple(sorted(place for place in self.has_agreed if self.has_agreed[place]))

    def missing(self):
        return tuple(sorted(place for place in self.has_agreed if not self.has_agreed[place]))

    def may(self, deed):
        if deed == "deal":
            return self.phase in ("clear", "held")
        if deed == "ask":
            return self.phase == "dealt" and self.all_agreed()
        return (self.phase == "dealt" and self.all_agreed()) or self.phase == "held"

    def do(self, deed, words=None):
        self.turn = self.turn + 1
        self.has_agreed = {place: False for place in range(1, self.many)}
        self.phase = {"deal": "dealt", "ask": "asking", "clear": "clearing"}[deed]
        if deed == "deal":
            self.dealt = words
            self.word = words[0]
        if deed == "clear":
            self.word = "free"

    def letters(self):
        words = {
            "dealt": self.dealt, "asking": ("hold",) * 4, "clearing": ("free",) * 4}.get(self.phase, ())
        return tuple(("tell", place, self.turn, words[place]) for place in self.missing())

    def hear(self, letter):
        told, place, turn = letter
        if turn != self.turn or self.has_agreed.get(place, True):
            return False
        self.has_agreed[place] = True
        if self.all_agreed() and self.phase == "asking":
            self.phase, self.word = "held", "hold"
        if self.all_agreed() and self.phase == "clearing":
            self.phase = "clear"
        return True


class FollowerBook:
    def __init__(self, place):
        self.place = place
        self.turn = 0
        self.word = "free"

    def hear(self, letter):
        told, place, turn, word = letter
        if place != self.place:
            return None
        if turn > self.turn:
            self.turn, self.word = turn, word
        return None if turn < self.turn else ("got", self.place, turn)
