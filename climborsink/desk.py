"""The desk: a sky that is told rows of words, and answers by texts."""

from climborsink.dealing import best, parting, room
from climborsink.errors import NoRow
from climborsink.rows import row_of
from climborsink.sky import Sky


def joined(parts):
    return " ".join([str(part) for part in parts])


def answer_deal(sky, told):
    sky.deal(told)
    return "ok"


def answer_ask(sky, told):
    sky.ask()
    return "ok"


def answer_clear(sky, told):
    sky.clear()
    return "ok"


def answer_send(sky, told):
    numbers = sky.send()
    return "none" if numbers == () else joined(numbers)


def answer_carry(sky, told):
    sky.carry(told[0])
    return "ok"


def answer_lose(sky, told):
    sky.lose(told[0])
    return "ok"


def answer_double(sky, told):
    return str(sky.double(told[0]))


def answer_move(sky, told):
    sky.move(told)
    return "ok"


def answer_words(sky, told):
    return joined(sky.words())


def answer_heights(sky, told):
    return joined(sky.heights())


def answer_rates(sky, told):
    return joined(sky.rates())


def answer_turns(sky, told):
    return joined(sky.turns())


def answer_phase(sky, told):
    return f"{sky.phase()} {sky.step()}"


def answer_post(sky, told):
    letters = sky.under_way()
    if letters == ():
        return "none"
    return "; ".join([f"{number}: {joined(letter)}" for number, letter in letters])


def answer_log(sky, told):
    return str(len(sky))


def answer_best(sky, told):
    window, late = told
    words, found = best(sky.flights(), window=window, late=late)
    return f"{joined(words)} {found}"


def answer_room(sky, told):
    window, late, words = told
    return str(room(sky.flights(), words, window=window, late=late))


def answer_parted(sky, told):
    window, late, miss = told
    paper = parting(sky.flights(), window=window, late=late, miss=miss)
    if paper[0] == "none":
        return "none"
    return f"{joined(paper[1])} order {joined(paper[2])}"


ANSWERS = {
    "deal": answer_deal,
    "ask": answer_ask,
    "clear": answer_clear,
    "send": answer_send,
    "carry": answer_carry,
    "lose": answer_lose,
    "double": answer_double,
    "move": answer_move,
    "words": answer_words,
    "heights": answer_heights,
    "rates": answer_rates,
    "turns": answer_turns,
    "phase": answer_phase,
    "post": answer_post,
    "log": answer_log,
    "best": answer_best,
    "room": answer_room,
    "parted": answer_parted,
}


class Desk:
    def __init__(self, makes, heights, rates):
        self.sky = Sky(makes, heights, rates)

    def say(self, row):
        found = row_of(row, self.sky.many)
        if found is None:
            raise NoRow(row)
        name, told = found
        answer = ANSWERS[name]
        return answer(self.sky, told)
