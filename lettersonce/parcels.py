"""Parcels: what desks send to each other."""

from lettersonce.letters import is_letter
from lettersonce.names import are_ascending, is_ref, is_room


def is_parcel(thing):
    """Return True if the object is a parcel. Any object may be passed."""
    if type(thing) != tuple or len(thing) != 3:
        return False
    word, room, told = thing
    # Only a string may be compared: an object of another class may run code of its own.
    if type(word) != str or not is_room(room) or type(told) != tuple:
        return False
    if word == "have":
        return _are_counts(told)
    return word == "letters" and len(told) > 0 and all([is_letter(value) for value in told])


def _are_counts(things):
    """Return True if the objects are pairs of name and number by ascending names."""
    # A pair of a name and a number has the form of a ref.
    return all([is_ref(pair) for pair in things]) and are_ascending([pair[0] for pair in things])
