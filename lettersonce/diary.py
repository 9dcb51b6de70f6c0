"""Diaries: the letters of several rooms in one text."""

from lettersonce.archive import archive
from lettersonce.errors import BadMail
from lettersonce.mail import read_mail
from lettersonce.names import is_room

FRONT = "Room: "


def entry(room, letter):
    """Return the entry of a Letter of a room, a string."""
    founder, word = room
    return f"{FRONT}{founder} {word}\n" + archive([letter])


def read_diary(text):
    """Return the list of the pairs of room and Letter that begin a text, and the length of their entries."""
    # What stands behind the last newline is not a line.
    lines = text.split("\n")[:-1]
    entries = []
    at = 0
    while at < len(lines):
        try:
            room = _read_room(lines[at])
            letter, at = read_mail(lines, at + 1)
        except BadMail:
            break
        entries.append((room, letter))
    return entries, sum([len(line) + 1 for line in lines[:at]])


def _read_room(line):
    """Return the room that a line of the room names. Raises BadMail."""
    room = tuple(line[len(FRONT):].split(" "))
    if not line.startswith(FRONT) or not is_room(room):
        raise BadMail("this is not the line of a room")
    return room
