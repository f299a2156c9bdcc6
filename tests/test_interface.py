"""The interface: names, arguments and their defaults."""

import importlib
import inspect
import unittest

from climborsink import chief, courses, dealing, logs, pairs, post, sky, tables, turning

FUNCTIONS = {
    "makes": ("is_make(thing)", "may_go(make, word, rate, other)", "rates_from(make, word, rate)"),
    "courses": (
        "is_course(thing)", "is_flight(thing)", "turned(course, word, *, limit=2)", "modes_at(course, step)",
        "is_motion(flight, thing)", "heights_of(flight, motion)"),
    "tables": (
        "table(flight, *, steps)", "stands(flight, thing, *, steps)", "reach(rows)",
        "motion_to(flight, *, step, lowest=True)"),
    "pairs": ("gap(upper, lower, *, window)", "shown(upper, lower, *, window, miss=1)"),
    "dealing": (
        "dealt(flight, word, *, late=2)", "room(flights, words, *, window, late=2)",
        "best(flights, *, window, late=2)", "order_of(flights, words, *, window, late=2)",
        "parting(flights, *, window, late=2, miss=1)"),
    "turning": ("turn_about(flights, *, window, held=2, late=4)",),
    "looker": ("holds(claim, paper)",),
    "logs": ("log_stands(makes, heights, rates, thing)",),
}

# Each class with the arguments that make it and its methods; its own ones, not those of a class above.
CLASSES = {
    "post": {
        "Post()": (
            "send(self, letter)", "carry(self, number)", "lose(self, number)", "double(self, number)",
            "under_way(self)", "__eq__(self, other)", "__len__(self)")},
    "chief": {
        "Chief(many)": (
            "turn(self)", "phase(self)", "word(self)", "agreed(self)", "deal(self, words)", "ask(self)",
            "clear(self)", "letters(self)", "hear(self, letter)"),
        "Follower(place)": ("turn(self)", "word(self)", "hear(self, letter)")},
    "sky": {
        "Sky(makes, heights, rates)": (
            "deal(self, words)", "ask(self)", "clear(self)", "send(self)", "carry(self, number)", "lose(self, number)",
            "double(self, number)", "move(self, rates)", "move_by(self, asked)", "is_busy(self)", "notes(self)",
            "step(self)", "heights(self)", "rates(self)", "words(self)", "turns(self)", "flights(self)", "phase(self)",
            "agreed(self)", "under_way(self)", "log(self)", "deed(self, at=-1)", "__eq__(self, other)",
            "__len__(self)", "__str__(self)", "__repr__(self)")},
    "desk": {"Desk(makes, heights, rates)": ("say(self, row)",)},
}

VALUES = {
    "courses": {"LATE": 2},
    "pairs": {"MISS": 1},
    "dealing": {"WORDS": ("climb", "hold", "sink")},
}


class Interface(unittest.TestCase):
    def test_functions(self):
        for module, signatures in FUNCTIONS.items():
            found = importlib.import_module(f"climborsink.{module}")
            for signature in signatures:
                name = signature.partition("(")[0]
                function = getattr(found, name)
                self.assertEqual(f"{name}{inspect.signature(function)}", signature)
                self.assertEqual(function.__module__, f"climborsink.{module}")

    def test_classes(self):
        for module, classes in CLASSES.items():
            found = importlib.import_module(f"climborsink.{module}")
            for signature, methods in classes.items():
                name = signature.partition("(")[0]
                made = getattr(found, name)
                self.assertEqual(f"{name}{inspect.signature(made)}", signature)
                self.assertEqual(made.__module__, f"climborsink.{module}")
                for method in methods:
                    own = vars(made)[method.partition("(")[0]]
                    self.assertEqual(f"{own.__name__}{inspect.signature(own)}", method)

    def test_values(self):
        for module, values in VALUES.items():
            found = importlib.import_module(f"climborsink.{module}")
            for name, due in values.items():
                told = getattr(found, name)
                self.assertEqual((type(told), told), (type(due), due))

    def test_no_error_somewhat_beyond_the_bounds(self):
        flight = ((9, 4, 1, 5), 10 ** 10, 0, ("free", (("free", 12), ("hold", 12), ("free", 12))))
        self.assertEqual(courses.turned(("free", ()), "climb", limit=13), ("free", (("climb", 13),)))
        self.assertEqual(courses.modes_at(flight[3], 30), (3, 3))
        self.assertEqual(len(courses.heights_of(flight, (0,) * 30)), 31)
        self.assertEqual(len(tables.table(flight, steps=30)), 31)
        self.assertEqual(len(tables.motion_to(flight, step=30)), 30)
        self.assertEqual(pairs.shown(flight, flight, window=(0, 30), miss=0)[0], "broken")
        # Behind three turns, and below their limits.
        self.assertEqual(dealing.dealt(flight, "climb", late=5)[3][1], flight[3][1] + (("climb", 5),))
        self.assertLess(dealing.room((flight, flight), ("climb", "sink"), window=(1, 26), late=5), 0)
        level = tuple((flight[0], height, 0, ("hold", ())) for height in (1, 2, 3, 4, 5))
        self.assertEqual(dealing.best(level, window=(1, 3), late=14)[1], 1)
        self.assertEqual(dealing.parting(level, window=(1, 3), late=14, miss=0)[0], "dealt")
        self.assertEqual(dealing.parting((flight, flight), window=(1, 3), late=14, miss=-1000)[0], "dealt")
        self.assertEqual(turning.turn_about(level, window=(1, 26), held=13, late=14), ("stay", 1))
        self.assertEqual(turning.turn_about((flight, flight), window=(1, 3), held=4, late=3)[0], "stay")

    def test_no_error_somewhat_beyond_the_bounds_of_deeds_and_craft(self):
        head, other = chief.Chief(6), chief.Follower(5)
        head.deal(("hold",) * 6)
        self.assertEqual(other.hear(head.letters()[-1]), ("got", 5, 1))
        self.assertIs(head.hear(("got", 5, 1)), True)
        self.assertEqual(other.hear(("tell", 5, 10 ** 12, "sink")), ("got", 5, 10 ** 12))
        box, parts = post.Post(), (((1, 1, 1, 1),) * 2, (0, 0), (0, 0))
        above = sky.Sky(*parts)
        for deed in range(1200):
            self.assertEqual(box.send(()), deed)
            above.send()
        self.assertEqual((len(box), len(above)), (1200, 1200))
        self.assertIs(logs.log_stands(*parts, above.log()), True)


if __name__ == "__main__":
    unittest.main()
