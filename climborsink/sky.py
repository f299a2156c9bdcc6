"""A sky of craft: a chief, those who follow, their post, and their moves, step by step, with a log."""

from climborsink.chief import Chief, Follower
from climborsink.dealing import is_tuple_for_craft
from climborsink.errors import NoDeed, NoMotion, NoSky
from climborsink.kinds import is_tuple_of, is_whole, is_whole_within
from climborsink.makes import is_make, may_go
from climborsink.post import Post


def are_makes(thing):
    return is_tuple_for_craft(thing) and all([is_make(part) for part in thing])


def are_heights(thing, makes):
    return is_tuple_of(thing, len(makes)) and all([is_whole(part) for part in thing])


def are_rates(thing, makes):
    if not is_tuple_of(thing, len(makes)):
        return False
    return all([is_whole_within(rate, -make[0], make[0]) for make, rate in zip(makes, thing)])


def wrong_part(makes, heights, rates):
    """The name of the first part that makes no sky, None where all are as they must be."""
    if not are_makes(makes):
        return "makes"
    if not are_heights(heights, makes):
        return "heights"
    if not are_rates(rates, makes):
        return "rates"
    return None


class Sky:
    def __init__(self, makes, heights, rates):
        wrong = wrong_part(makes, heights, rates)
        if wrong is not None:
            raise NoSky(wrong)
        self.many = len(makes)
        self.makes = makes
        self.first_heights = heights
        self.first_rates = rates
        self.now_heights = heights
        self.now_rates = rates
        self.chief = Chief(self.many)
        self.others = tuple([Follower(place) for place in range(1, self.many)])
        self.post = Post()
        self.done = []
        self.moves = 0
        self.busy = False
        self.noted = ()

    def deal(self, words):
        self.chief.deal(words)
        self.done.append(("deal", words))

    def ask(self):
        self.chief.ask()
        self.done.append(("ask",))

    def clear(self):
        self.chief.clear()
        self.done.append(("clear",))

    def send(self):
        numbers = tuple([self.post.send(letter) for letter in self.chief.letters()])
        self.done.append(("send", numbers))
        return numbers

    def carry(self, number):
        self.hand_over(self.post.carry(number))
        self.done.append(("carry", number))

    def hand_over(self, letter):
        if letter[0] == "got":
            self.chief.hear(letter)
            return
        answer = self.others[letter[1] - 1].hear(letter)
        if answer is not None:
            self.post.send(answer)

    def lose(self, number):
        self.post.lose(number)
        self.done.append(("lose", number))

    def double(self, number):
        new = self.post.double(number)
        self.done.append(("double", number, new))
        return new

    def move(self, rates):
        if not is_tuple_of(rates, self.many):
            raise NoMotion(None, None)
        words = self.words()
        for place, rate in enumerate(rates):
            if not may_go(self.makes[place], words[place], self.now_rates[place], rate):
                raise NoMotion(place, words[place])
        self.now_heights = tuple([height + rate for height, rate in zip(self.now_heights, rates)])
        self.now_rates = rates
        self.moves += 1
        self.done.append(("move", rates))

    def move_by(self, asked):
        self.busy = True
        self.noted += ("begin",)
        try:
            rates = [asked(place, height, rate, word) for place, height, rate, word in self.craft()]
            self.move(tuple(rates))
        finally:
            self.busy = False
            self.noted += ("end",)

    def craft(self):
        """(place, height, rate, word) of each craft, in a list, so that what is asked can look at the sky."""
        return list(zip(range(self.many), self.now_heights, self.now_rates, self.words()))

    def is_busy(self):
        return self.busy

    def notes(self):
        return list(self.noted)

    def step(self):
        return self.moves

    def heights(self):
        return self.now_heights

    def rates(self):
        return self.now_rates

    def words(self):
        return tuple([self.chief.word()] + [other.word() for other in self.others])

    def turns(self):
        return tuple([self.chief.turn()] + [other.turn() for other in self.others])

    def flights(self):
        return tuple([
            (self.makes[place], height, rate, (word, ())) for place, height, rate, word in self.craft()
        ])

    def phase(self):
        return self.chief.phase()

    def agreed(self):
        return self.chief.agreed()

    def under_way(self):
        return self.post.under_way()

    def log(self):
        return tuple(self.done)

    def deed(self, at=-1):
        deeds = len(self.done)
        if not -deeds <= at < deeds:
            raise NoDeed(at, deeds)
        return self.done[at]

    def __eq__(self, other):
        return (
            isinstance(other, Sky)
            and self.makes == other.makes
            and self.first_heights == other.first_heights
            and self.first_rates == other.first_rates
            and self.done == other.done
        )

    def __len__(self):
        return len(self.done)

    def __str__(self):
        return " ".join([str(height) for height in self.now_heights])

    def __repr__(self):
        return f"Sky of {self.many}, step {self.moves}"
