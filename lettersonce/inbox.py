"""Inboxes: what somebody has not read yet."""

from lettersonce.bodies import text_of
from lettersonce.names import DIGITS, LETTERS

SIGN = "@"


class Inbox:
    """How many letters of each room somebody has read."""

    def __init__(self, name):
        self.name = name
        self._counts = {}

    def mark_read(self, room, count):
        """Keep that so many letters of a room are read, if that is more than before."""
        self._counts[room] = max(count, self.read(room))

    def read(self, room):
        """Return how many letters of a room are read."""
        return self._counts.get(room, 0)

    def unread(self, room, letters):
        """Return the list of the refs of the unread letters of a list, in order."""
        return [letter.ref for letter in self._unread_letters(room, letters)]

    def mentions(self, room, letters):
        """Return the list of the refs of the unread letters that call the person, in order."""
        return [letter.ref for letter in self._unread_letters(room, letters) if _calls(text_of(letter.body), self.name)]

    def _unread_letters(self, room, letters):
        left = letters[self.read(room):]
        return [letter for letter in left if letter.body[0] in ("say", "reply") and letter.author != self.name]


def _calls(text, name):
    """Return True if a text has the sign somewhere with just this name directly behind it."""
    # No name has the sign, so that behind each one a part begins.
    return any([_front_signs(part) == name for part in text.split(SIGN)[1:]])


def _front_signs(text):
    """Return the longest beginning of a text of signs that a name may have."""
    end = 0
    while end < len(text) and (text[end] in LETTERS or text[end] in DIGITS):
        end += 1
    return text[:end]
