"""What several modules ask of any thing that is handed in."""


def is_whole(thing):
    # In Python True and False are ints, here they are no numbers.
    return isinstance(thing, int) and not isinstance(thing, bool)


def is_whole_within(thing, least, greatest):
    return is_whole(thing) and least <= thing <= greatest


def is_text(thing):
    return isinstance(thing, str)


def is_tuple_of(thing, many):
    return isinstance(thing, tuple) and len(thing) == many


def own_copy(thing):
    """An equal thing that shares no list with this one."""
    if isinstance(thing, list):
        return [own_copy(part) for part in thing]
    if isinstance(thing, tuple):
        return tuple([own_copy(part) for part in thing])
    return thing
