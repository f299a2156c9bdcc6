"""The refusals, each with the fields that it is asked by.

Where a field holds any thing that was told, it holds a copy: the asker may
change a list behind the call, and the error must still say what was told.
"""

from climborsink.kinds import own_copy


class NoSky(TypeError):
    def __init__(self, part):
        TypeError.__init__(self, f"no sky has these {part}")
        self.part = part


class NoWords(ValueError):
    def __init__(self, told):
        ValueError.__init__(self, "these are no words to deal")
        self.told = own_copy(told)


class NotAgreed(RuntimeError):
    def __init__(self, now, missing):
        RuntimeError.__init__(self, f"refused at the phase {now}, not agreed: {missing}")
        self.now = now
        self.missing = missing


class NoLetter(KeyError):
    def __init__(self, number):
        KeyError.__init__(self, "no letter of this number is under way")
        self.number = own_copy(number)


class NoMotion(ArithmeticError):
    def __init__(self, place, by):
        ArithmeticError.__init__(self, f"no motion, place {place}, word {by}")
        self.place = place
        self.by = by


class NoTurn(OverflowError):
    def __init__(self, limit):
        OverflowError.__init__(self, f"no such turn, least limit {limit}")
        self.limit = limit


class NoOrder(LookupError):
    def __init__(self, apart):
        LookupError.__init__(self, f"no order, the room is {apart}")
        self.apart = apart


class NoDeed(IndexError):
    def __init__(self, at, deeds):
        IndexError.__init__(self, f"no deed there, the log has {deeds}")
        self.at = at
        self.deeds = deeds


class NoRow(ValueError):
    def __init__(self, row):
        ValueError.__init__(self, "this is no row of a desk")
        self.row = own_copy(row)
