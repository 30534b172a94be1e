"""Checks of arguments, and little else, that several modules share."""

from heaprows.errors import BadArms, BadIndex, BadKey, BadMany, BadPlace, BadRoom, BadRow, SameKeys, TooLarge

MOST_ARMS = 4
MOST_PLACES = 12
MOST_ROOM = 12
GREATEST_KEY = 1000000000


class Mark:
    """A mark that equals no other one, so that objects that hold one equal only themselves."""


def is_integer(thing):
    """Return whether a value of any kind is an integer."""
    # In Python, booleans are integers; in this package they are not.
    return isinstance(thing, int) and not isinstance(thing, bool)


def is_integer_from(thing, least, greatest):
    """Return whether a value of any kind is an integer within two limits."""
    return is_integer(thing) and least <= thing <= greatest


def is_key(thing):
    """Return whether a value of any kind is a key."""
    return is_integer_from(thing, -GREATEST_KEY, GREATEST_KEY)


def check_arms(arms):
    """Raise BadArms if the arms are not an integer from 1 to 4."""
    if not is_integer_from(arms, 1, MOST_ARMS):
        raise BadArms("arms is not an integer from 1 to 4")


def check_many(many):
    """Raise BadMany if a value is not a number of places."""
    if not is_integer_from(many, 0, MOST_PLACES):
        raise BadMany("the number of places is not an integer from 0 to 12")


def check_place(place, many):
    """Raise BadPlace if a value is not one of so many places."""
    if not is_integer_from(place, 0, many - 1):
        raise BadPlace("not a place")


def check_key(key):
    """Raise BadKey if a value is not a key."""
    if not is_key(key):
        raise BadKey("not an integer from -10**9 to 10**9")


def check_room(room):
    """Raise BadRoom if a value is not a room."""
    if not is_integer_from(room, 1, MOST_ROOM):
        raise BadRoom("not an integer from 1 to 12")


def check_index(index, many):
    """Raise BadIndex if a value is not an index of a list with so many items."""
    if not is_integer_from(index, 0, many - 1):
        raise BadIndex("not an index")


def check_few(row, most):
    """Raise TooLarge if a row has more than so many keys."""
    if len(row) > most:
        raise TooLarge(f"more than {most} keys")


def row_of(row):
    """Return a row argument as a tuple; raise BadRow if it is not a row."""
    if not isinstance(row, (list, tuple)) or len(row) > MOST_PLACES:
        raise BadRow(None)
    for index, key in enumerate(row):
        if not is_key(key):
            raise BadRow(index)
    return tuple(row)


def check_different(keys):
    """Raise SameKeys if some keys of a row are equal."""
    for place, key in enumerate(keys):
        if key in keys[:place]:
            raise SameKeys(place)


def is_full(thing, many):
    """Return whether the items of a list or tuple are the integers from 0 to many - 1, each once."""
    return all([is_integer_from(item, 0, many - 1) for item in thing]) and sorted(thing) == list(range(many))


def is_set_of_places(thing, many):
    """Return whether a value of any kind is an ascending tuple of some of so many places."""
    if not isinstance(thing, tuple) or not all([is_integer_from(item, 0, many - 1) for item in thing]):
        return False
    return list(thing) == sorted(set(thing))


def parts_of(things, size):
    """Return the list of all tuples of so many of some things, in their order."""
    parts = [()]
    for thing in things:
        parts = parts + [part + (thing,) for part in parts]
    return [part for part in parts if len(part) == size]
