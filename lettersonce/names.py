"""Names, numbers, titles, texts, refs and rooms.

Any Python object may be passed to the functions that ask what a thing is.
They ask for the very kind of it before they touch it: an object of another
class may run code of its own, and may raise anything.
"""

LETTERS = "abcdefghijklmnopqrstuvwxyz"
DIGITS = "0123456789"
LONGEST_NAME = 12
LONGEST_TITLE = 60
LONGEST_TEXT = 400
GREATEST = 10 ** 18


def is_name(thing):
    """Return True if the object is a name."""
    if type(thing) != str or not 1 <= len(thing) <= LONGEST_NAME:
        return False
    return thing[0] in LETTERS and all([sign in LETTERS or sign in DIGITS for sign in thing])


def is_number(thing):
    """Return True if the object is a number; True and False are none."""
    return type(thing) == int and 1 <= thing <= GREATEST


def is_title(thing):
    """Return True if the object is a title."""
    if type(thing) != str or len(thing) > LONGEST_TITLE:
        return False
    return all([_is_printed(sign) for sign in thing])


def is_text(thing):
    """Return True if the object is a text."""
    if type(thing) != str or not 1 <= len(thing) <= LONGEST_TEXT:
        return False
    return all([sign == "\n" or _is_printed(sign) for sign in thing])


def is_ref(thing):
    """Return True if the object is a ref."""
    return _is_pair(thing) and is_name(thing[0]) and is_number(thing[1])


def is_room(thing):
    """Return True if the object is a room."""
    return _is_pair(thing) and is_name(thing[0]) and is_name(thing[1])


def are_ascending(names):
    """Return True if each string of a list is greater than the one before it."""
    return all([low < high for low, high in zip(names, names[1:])])


def _is_printed(sign):
    return " " <= sign <= "~"


def _is_pair(thing):
    return type(thing) == tuple and len(thing) == 2
