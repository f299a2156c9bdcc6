"""Points 13 to 15, 17 and 20 of the document written out anew as plain books, to look at what the program tells.

Nothing here is imported from the program.
"""

from tests.oracle import DEALT_WORDS, is_number, let_by

PHASES = ("clear", "dealt", "asking", "held", "clearing")


class LetterBook:
    """All letters that ever came, and which of them are gone."""

    def __init__(self):
        self.came = []
        self.gone = set()

    def here(self):
        return [number for number in range(len(self.came)) if number not in self.gone]

    def enter(self, letter):
        self.came.append(letter)
        return len(self.came) - 1

    def under_way(self):
        return tuple((number, self.came[number]) for number in self.here())


class ChiefBook:
    def __init__(self, many):
        self.many = many
        self.turn = 0
        self.phase = "clear"
        self.word = "free"
        self.dealt = None
        self.has_agreed = {place: True for place in range(1, many)}

    def all_agreed(self):
        return all(self.has_agreed.values())

    def agreed(self):
        return tuple(sorted(place for place in self.has_agreed if self.has_agreed[place]))

    def missing(self):
        return tuple(sorted(place for place in self.has_agreed if not self.has_agreed[place]))

    def may(self, deed):
        if deed == "deal":
            return self.phase in ("clear", "held")
        if deed == "ask":
            return self.phase == "dealt" and self.all_agreed()
        return (self.phase == "dealt" and self.all_agreed()) or self.phase == "held"

    def do(self, deed, words=None):
        self.turn = self.turn + 1
        self.has_agreed = {place: False for place in range(1, self.many)}
        self.phase = {"deal": "dealt", "ask": "asking", "clear": "clearing"}[deed]
        if deed == "deal":
            self.dealt = words
            self.word = words[0]
        if deed == "clear":
            self.word = "free"

    def letters(self):
        words = {
            "dealt": self.dealt, "asking": ("hold",) * 4, "clearing": ("free",) * 4}.get(self.phase, ())
        return tuple(("tell", place, self.turn, words[place]) for place in self.missing())

    def hear(self, letter):
        told, place, turn = letter
        if turn != self.turn or self.has_agreed.get(place, True):
            return False
        self.has_agreed[place] = True
        if self.all_agreed() and self.phase == "asking":
            self.phase, self.word = "held", "hold"
        if self.all_agreed() and self.phase == "clearing":
            self.phase = "clear"
        return True


class FollowerBook:
    def __init__(self, place):
        self.place = place
        self.turn = 0
        self.word = "free"

    def hear(self, letter):
        told, place, turn, word = letter
        if place != self.place:
            return None
        if turn > self.turn:
            self.turn, self.word = turn, word
        return None if turn < self.turn else ("got", self.place, turn)


class Refused(Exception):
    """What a sky refuses: the name of the error and its fields."""

    def __init__(self, name, fields):
        super().__init__(name)
        self.name = name
        self.fields = fields


class SkyBook:
    def __init__(self, makes, heights, rates):
        self.makes = makes
        self.first = (makes, heights, rates)
        self.heights = list(heights)
        self.rates = list(rates)
        self.chief = ChiefBook(len(makes))
        self.others = {place: FollowerBook(place) for place in range(1, len(makes))}
        self.post = LetterBook()
        self.log = []
        self.notes = []

    def words(self):
        return [self.chief.word] + [self.others[place].word for place in sorted(self.others)]

    def turns(self):
        return [self.chief.turn] + [self.others[place].turn for place in sorted(self.others)]

    def chiefs_deed(self, deed, *words):
        many = len(self.makes)
        if deed == "deal":
            thing = words[0]
            if type(thing) is not tuple or len(thing) != many or not all(word in DEALT_WORDS for word in thing):
                raise Refused("NoWords", {"told": thing})
        if not self.chief.may(deed):
            raise Refused("NotAgreed", {"now": self.chief.phase, "missing": self.chief.missing()})
        self.chief.do(deed, *words)
        self.log.append((deed, *words))

    def deal(self, words):
        self.chiefs_deed("deal", words)

    def ask(self):
        self.chiefs_deed("ask")

    def clear(self):
        self.chiefs_deed("clear")

    def send(self):
        numbers = tuple(self.post.enter(letter) for letter in self.chief.letters())
        self.log.append(("send", numbers))
        return numbers

    def letter(self, number):
        if not is_number(number) or number not in self.post.here():
            raise Refused("NoLetter", {"number": number})
        return self.post.came[number]

    def carry(self, number):
        letter = self.letter(number)
        self.post.gone.add(number)
        if letter[0] == "got":
            self.chief.hear(letter)
        else:
            answer = self.others[letter[1]].hear(letter)
            if answer:
                self.post.enter(answer)
        self.log.append(("carry", number))

    def lose(self, number):
        self.letter(number)
        self.post.gone.add(number)
        self.log.append(("lose", number))

    def double(self, number):
        new = self.post.enter(self.letter(number))
        self.log.append(("double", number, new))
        return new

    def move(self, rates):
        if type(rates) is not tuple or len(rates) != len(self.makes):
            raise Refused("NoMotion", {"place": None, "by": None})
        for place, make in enumerate(self.makes):
            word = self.words()[place]
            if not is_number(rates[place]) or not let_by(make, word, self.rates[place], rates[place]):
                raise Refused("NoMotion", {"place": place, "by": word})
        for place, rate in enumerate(rates):
            self.rates[place] = rate
            self.heights[place] += rate
        self.log.append(("move", rates))

    def move_by(self, asked):
        self.notes += ["begin", "end"]
        self.move(tuple(
            asked(place, self.heights[place], self.rates[place], self.words()[place])
            for place in range(len(self.makes))))

    def steps(self):
        return sum(deed[0] == "move" for deed in self.log)

    def tells(self):
        """All that a sky tells, by the names of its questions."""
        return {
            "is_busy": False,
            "notes": list(self.notes),
            "step": self.steps(),
            "heights": tuple(self.heights),
            "rates": tuple(self.rates),
            "words": tuple(self.words()),
            "turns": tuple(self.turns()),
            "flights": tuple(
                (make, height, rate, (word, ()))
                for make, height, rate, word in zip(self.makes, self.heights, self.rates, self.words())),
            "phase": self.chief.phase,
            "agreed": self.chief.agreed(),
            "under_way": self.post.under_way(),
            "log": tuple(self.log),
        }


PARTS = {"deal": 2, "ask": 1, "clear": 1, "send": 2, "carry": 2, "lose": 2, "double": 3, "move": 2}


def log_stands_by_words(makes, heights, rates, thing):
    """Point 22: the deeds are done anew, and each is just what the log then tells, no truth for a number."""
    if type(thing) is not tuple:
        return False
    book = SkyBook(makes, heights, rates)
    for deed in thing:
        if type(deed) is not tuple or not deed or type(deed[0]) is not str or PARTS.get(deed[0]) != len(deed):
            return False
        told = () if deed[0] == "send" else deed[1:2]
        try:
            getattr(book, deed[0])(*told)
        except Refused:
            return False
        if repr(book.log[-1]) != repr(deed):
            return False
    return True
