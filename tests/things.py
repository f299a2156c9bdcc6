"""Things of every kind, for the questions that are asked of any thing."""


def nested(depth, inner):
    thing = inner
    for level in range(depth):
        thing = (thing,) if level % 2 else [thing]
    return thing


# None of these is a whole number, and none is a make.
OTHER_THINGS = (
    None, True, False, "", "0", "1", "climb", "a" * 400,
    (), [], (0,), [0], (None,), (True,), ("",), ((),), [[]], (0, 0), ([], ()),
    (1, 1, 1), [1, 1, 1, 1], (1, 1, 1, 1, 1), ((1, 1, 1, 1),), [(1, 1, 1, 1)],
    nested(9, 0), nested(9, (1, 1, 1, 1)), (0,) * 20000, [0] * 20000,
)

WHOLE_NUMBERS = (0, 1, -1, 2, 9, 10, 999999999, -999999999)


def put_otherwise(whole, thing):
    """The whole with this thing in the place of each of its parts, one at a time, however deep."""
    found = [thing]
    if isinstance(whole, tuple):
        for place, part in enumerate(whole):
            found += [
                whole[:place] + (bent,) + whole[place + 1:] for bent in put_otherwise(part, thing)]
    return found
