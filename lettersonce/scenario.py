"""Scenarios: lists of deeds that are done in a town."""

from lettersonce.errors import RoomError

# How many items the deed of each word has, the word included.
LENGTHS = {
    "found": 5,
    "write": 4,
    "save": 2,
    "ask": 4,
    "deliver": 2,
    "lose": 2,
    "stop": 3,
    "start": 2,
}


def perform(town, deed):
    """Do a deed in a town and return its outcome. The first item of the deed may be any object."""
    if not _is_deed(deed):
        return ("refused", "BadValue")
    method = _method_of(town, deed[0])
    arguments = deed[1:]
    try:
        return ("done", method(*arguments))
    except RoomError as error:
        return ("refused", type(error).__name__)


def run(town, deeds):
    """Do the deeds of a list in order; return the list of their outcomes."""
    return [perform(town, deed) for deed in deeds]


def _is_deed(deed):
    """Return True if a tuple has one of the words, and the length that goes with it."""
    # Only a string may be looked up: another object may have no hash.
    if len(deed) == 0 or type(deed[0]) != str:
        return False
    return LENGTHS.get(deed[0], 0) == len(deed)


def _method_of(town, word):
    """Return the method of a town that does the deeds of a word."""
    methods = {
        "found": town.found,
        "write": town.write,
        "save": town.save,
        "ask": town.ask,
        "deliver": town.deliver,
        "lose": town.lose,
        "stop": town.stop,
        "start": town.start,
    }
    return methods[word]
