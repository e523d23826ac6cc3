"""What a whole number, a name, a tuple and a rising row are: the words of point 2."""

LETTERS = "abcdefghijklmnopqrstuvwxyz"
LONGEST_NAME = 8


def is_whole(thing):
    """Tell whether thing is a whole number; True and False are none."""
    return isinstance(thing, int) and not isinstance(thing, bool)


def is_number(thing, low, high):
    """Tell whether thing is a whole number from low to high."""
    return is_whole(thing) and low <= thing <= high


def is_name(thing):
    """Tell whether thing is a text of 1 to 8 small letters."""
    if not isinstance(thing, str) or not 1 <= len(thing) <= LONGEST_NAME:
        return False
    return all([sign in LETTERS for sign in thing])


def is_tuple(thing, fewest, most):
    """Tell whether thing is a tuple of so many things, neither fewer nor more."""
    return isinstance(thing, tuple) and fewest <= len(thing) <= most


def is_rising(things):
    """Tell whether things, all of one kind, are in order and none is there twice."""
    return all([things[at] < things[at + 1] for at in range(len(things) - 1)])


def copied(thing):
    """Copy thing with all lists and tuples within it."""
    if isinstance(thing, list):
        return [copied(part) for part in thing]
    if isinstance(thing, tuple):
        return tuple([copied(part) for part in thing])
    return thing
