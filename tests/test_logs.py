"""Point 22, and the end of point 3."""

import random
import time
import unittest

from climborsink.logs import log_stands
from tests.books import log_stands_by_words
from tests.skies import random_log_of_sky, random_parts
from tests.things import OTHER_THINGS, WHOLE_NUMBERS, put_otherwise

THINGS = (None, True, False, 0, 1, 2, -1, "", "ask", "climb", (), [], (0,), (True,), ("ask",), ["ask"])


def logs(seed, many, deeds):
    """The parts at first and the log of so many skies of two to four craft."""
    chance = random.Random(seed)
    found = []
    for at in range(many):
        sky, book = random_log_of_sky(chance, 2 + at % 3, deeds, wrong=0.1)
        found.append((book.first, sky.log()))
    return found


class LogStands(unittest.TestCase):
    def look(self, parts, thing):
        told = log_stands(*parts, thing)
        self.assertIs(told, log_stands_by_words(*parts, thing), thing)
        return told

    def test_logs_of_skies_and_each_beginning_of_them(self):
        for parts, log in logs(111, 12, 40):
            for deeds in range(len(log) + 1):
                self.assertIs(log_stands(*parts, log[:deeds]), True)

    def test_no_deeds(self):
        parts = random_parts(random.Random(112), 3)
        self.assertIs(log_stands(*parts, ()), True)
        self.assertIs(log_stands(*parts, []), False)

    def test_each_deed_there_is(self):
        names = {deed[0] for parts, log in logs(111, 12, 40) for deed in log}
        self.assertEqual(names, {"deal", "ask", "clear", "send", "carry", "lose", "double", "move"})

    def test_deeds_left_out(self):
        told = [self.look(parts, log[:at] + log[at + 1:]) for parts, log in logs(113, 12, 40) for at in range(40)]
        self.assertGreater(told.count(False), 100)
        self.assertGreater(told.count(True), 10)

    def test_deeds_told_twice(self):
        told = [self.look(parts, log[:at] + log[at - 1:]) for parts, log in logs(114, 12, 40) for at in range(1, 41)]
        self.assertGreater(told.count(False), 100)
        self.assertGreater(told.count(True), 10)

    def test_deeds_exchanged(self):
        told = []
        for parts, log in logs(115, 12, 30):
            for at in range(1, 30):
                told.append(self.look(parts, log[:at - 1] + (log[at], log[at - 1]) + log[at + 1:]))
            told.append(self.look(parts, log[::-1]))
        self.assertGreater(told.count(False), 100)
        self.assertGreater(told.count(True), 10)

    def test_put_otherwise_at_any_place(self):
        for parts, log in logs(116, 6, 24):
            for thing in THINGS:
                for bent in put_otherwise(log, thing):
                    self.look(parts, bent)

    def test_one_more_and_one_less_at_any_number(self):
        for parts, log in logs(117, 6, 24):
            for at, deed in enumerate(log):
                for bent in self.near(deed):
                    self.look(parts, log[:at] + (bent,) + log[at + 1:])
                    self.look(parts, log[:at] + (bent,))

    def near(self, thing):
        """The thing with one of its numbers one more or less, or a part of a tuple left out or told twice."""
        if type(thing) is int:
            return [thing - 1, thing + 1]
        if type(thing) is not tuple:
            return []
        found = []
        for at, part in enumerate(thing):
            found += [thing[:at] + (bent,) + thing[at + 1:] for bent in self.near(part)]
            found += [thing[:at] + thing[at + 1:], thing[:at] + (part, part) + thing[at + 1:]]
        return found

    def test_a_truth_in_the_place_of_a_number(self):
        makes = ((9, 4, 2, 5),) * 2
        parts = (makes, (0, 0), (0, 0))
        log = (
            ("deal", ("climb", "hold")), ("send", (0,)), ("double", 0, 1), ("double", 1, 2), ("lose", 0), ("carry", 1),
            ("send", (4,)), ("move", (2, 0)), ("clear",))
        self.assertIs(log_stands(*parts, log[:-1]), True)
        self.assertIs(log_stands(*parts, log), False)
        for at, deed in (
                (1, ("send", (False,))), (2, ("double", False, 1)), (2, ("double", 0, True)), (3, ("double", True, 2)),
                (4, ("lose", False)), (5, ("carry", True)), (7, ("move", (2, False)))):
            self.assertIs(log_stands(*parts, log[:at] + (deed,) + log[at + 1:-1]), False, deed)
            self.assertIs(log_stands(*parts, log[:at] + (deed,)), False, deed)

    def test_lists_in_the_place_of_tuples(self):
        for parts, log in logs(118, 6, 20):
            self.assertIs(log_stands(*parts, list(log)), False)
            for at, deed in enumerate(log):
                self.assertIs(log_stands(*parts, log[:at] + (list(deed),) + log[at + 1:]), False)
                for place, part in enumerate(deed):
                    if type(part) is tuple:
                        bent = deed[:place] + (list(part),) + deed[place + 1:]
                        self.assertIs(log_stands(*parts, log[:at] + (bent,) + log[at + 1:]), False)

    def test_other_things(self):
        parts = random_parts(random.Random(119), 2)
        for thing in OTHER_THINGS + WHOLE_NUMBERS:
            self.look(parts, thing)
            self.look(parts, (thing,))
            self.look(parts, (("send", ()), thing))
            for name in ("deal", "ask", "clear", "send", "carry", "lose", "double", "move", "none", ""):
                self.look(parts, ((name, thing),))
                self.look(parts, ((name, 0, thing),))
                self.look(parts, ((thing, name),))

    def test_another_skys_parts(self):
        chance = random.Random(120)
        told = []
        for parts, log in logs(121, 20, 30):
            makes, heights, rates = parts
            told.append(self.look(random_parts(chance, len(makes)), log))
            told.append(self.look(random_parts(chance, 2 + (len(makes) - 1) % 3), log))
            told.append(self.look((makes, heights, rates[::-1]), log) if makes == makes[::-1] else False)
            # By other heights the same deeds are done.
            self.assertIs(log_stands(makes, tuple(height + 7 for height in heights), rates, log), True)
        self.assertGreater(told.count(False), 30)

    def test_logs_of_some_hundreds_of_deeds(self):
        for parts, log in logs(122, 3, 1000):
            began = time.monotonic()
            self.assertIs(log_stands(*parts, log), True)
            self.assertLess(time.monotonic() - began, 5)
            self.assertIs(log_stands(*parts, log + (("carry", -1),)), False)
            self.look(parts, log[:500] + log[501:])

    def test_by_names(self):
        (makes, heights, rates), log = logs(123, 1, 20)[0]
        self.assertIs(log_stands(thing=log, rates=rates, heights=heights, makes=makes), True)
        self.assertIs(log_stands(makes, heights, rates, thing=log[:5] + (("ask",), ("ask",))), False)


if __name__ == "__main__":
    unittest.main()
