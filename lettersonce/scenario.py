"""Scenarios: lists of deeds that are done in a town."""

from lettersonce.errors import BadValue, RoomError


def perform(town, deed):
    """Do a deed in a town and return its outcome. The first item of the deed may be any object."""
    try:
        return ("done", _do(town, deed))
    except RoomError as error:
        return ("refused", type(error).__name__)


def run(town, deeds):
    """Do the deeds of a list in order; return the list of their outcomes."""
    return [perform(town, deed) for deed in deeds]


def _do(town, deed):
    """Do a deed and return what the method of the town returns. Raises BadValue for what is no deed."""
    # Only a string may be compared: an object of another class may run code of its own.
    if len(deed) == 0 or type(deed[0]) != str:
        raise BadValue("a deed begins with a word")
    match deed:
        case ("found", name, word, title, members):
            return town.found(name, word, title, members)
        case ("write", name, room, body):
            return town.write(name, room, body)
        case ("save", name):
            return town.save(name)
        case ("ask", name, other, room):
            return town.ask(name, other, room)
        case ("deliver", number):
            return town.deliver(number)
        case ("lose", number):
            return town.lose(number)
        case ("stop", name, keep):
            return town.stop(name, keep)
        case ("start", name):
            return town.start(name)
        case _:
            raise BadValue("there is no deed of this word and this length")
