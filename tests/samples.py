"""Flights to ask about: small ones, whose motions can be gone through one by one, and large ones."""

import random

from tests.oracle import FOUR_WORDS, one_step, rates_of

SMALL_MAKES = ((1, 1, 1, 1), (2, 1, 1, 2), (2, 2, 1, 1), (1, 4, 2, 1))
LARGE_MAKES = ((9, 4, 1, 5), (9, 1, 1, 9), (9, 4, 4, 9), (7, 3, 2, 4), (5, 2, 2, 1))
GREATEST_MISS = 1000000


def random_course(chance, turns, limits):
    told = sorted(chance.choice(limits) for turn in range(turns))
    return (chance.choice(FOUR_WORDS), tuple((chance.choice(FOUR_WORDS), limit) for limit in told))


def random_flight(chance, makes, turns, limits, height):
    make = chance.choice(makes)
    return (make, height, chance.choice(rates_of(make)), random_course(chance, turns, limits))


def small_flights(seed, many, turns=(0, 1, 2, 3), span=4):
    chance = random.Random(seed)
    return [
        random_flight(chance, SMALL_MAKES, chance.choice(turns), range(0, 5), chance.randint(-span, span))
        for at in range(many)
    ]


def large_flights(seed, many, turns=(0, 1, 2, 3), span=60):
    chance = random.Random(seed)
    return [
        random_flight(chance, LARGE_MAKES, chance.choice(turns), range(0, 13), chance.randint(-span, span))
        for at in range(many)
    ]


def random_motion(chance, flight, steps):
    """A motion flown at random, with the mode of each step."""
    mode, rate = 0, flight[2]
    motion, modes = [], []
    for step in range(1, steps + 1):
        mode, rate = chance.choice(one_step(flight, mode, rate, step))
        motion.append(rate)
        modes.append(mode)
    return tuple(motion), tuple(modes)


def misses_around(told):
    """The misses at a gap or a room, one more and one less, and the least and the greatest miss."""
    return sorted({miss for miss in (1, told - 1, told, told + 1, GREATEST_MISS) if 1 <= miss <= GREATEST_MISS})
