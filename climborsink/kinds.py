"""What several modules ask of any thing that is handed in."""


def is_whole(thing):
    # In Python True and False are ints, here they are no numbers.
    return isinstance(thing, int) and not isinstance(thing, bool)


def is_whole_within(thing, least, greatest):
    return is_whole(thing) and least <= thing <= greatest


def is_text(thing):
    return isinstance(thing, str)


def is_tuple_of(thing, many):
    return isinstance(thing, tuple) and len(thing) == many


def own_copy(thing):
    """An equal thing that shares no list with this one."""
    if isinstance(thing, list):
        return [own_copy(part) for part in thing]
    if isinstance(thing, tuple):
        return tuple([own_copy(part) for part in thing])
    return thing


def is_same(told, thing):
    """Whether any thing is what was told: texts, whole numbers, and tuples of these, no truth for a number."""
    if isinstance(told, tuple):
        return is_tuple_of(thing, len(told)) and all([is_same(part, other) for part, other in zip(told, thing)])
    if is_whole(told):
        return is_whole(thing) and told == thing
    return is_text(thing) and told == thing
