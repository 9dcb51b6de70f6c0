"""Letters, their values and their order."""

from lettersonce.bodies import is_body
from lettersonce.errors import BadLetter
from lettersonce.names import are_ascending, is_name, is_number, is_ref


class Letter:
    """A letter. Nothing that is passed is checked."""

    def __init__(self, author, number, stamp, seen, body):
        self.author = author
        self.number = number
        self.stamp = stamp
        self.seen = seen
        self.body = body
        # Counts are asked for often, and a room may have many people.
        self._counts = {name: count for name, count in seen}

    @property
    def ref(self):
        """The tuple of author and number."""
        return (self.author, self.number)

    @property
    def key(self):
        """The tuple of stamp and author, by which letters are put in order."""
        return (self.stamp, self.author)

    def count(self, name):
        """Return how many letters of an author the letter has seen."""
        return self._counts.get(name, 0)

    def has_seen(self, ref):
        """Return True if the letter has seen the letter with this ref."""
        name, number = ref
        return self.count(name) >= number

    def value(self):
        """Return the tuple of the five things that make the letter."""
        return (self.author, self.number, self.stamp, self.seen, self.body)

    @staticmethod
    def from_value(value):
        """Return the Letter with this value. Raises BadLetter for anything else."""
        if not is_letter(value):
            raise BadLetter("this is not the value of a letter")
        author, number, stamp, seen, body = value
        return Letter(author, number, stamp, seen, body)


def is_letter(thing):
    """Return True if the object is a letter value. Any object may be passed."""
    if type(thing) != tuple or len(thing) != 5:
        return False
    author, number, stamp, seen, body = thing
    if not (is_name(author) and is_number(number) and is_number(stamp)):
        return False
    if not (_is_seen(seen) and is_body(body)):
        return False
    if (author, number) not in seen or stamp < number:
        return False
    if body[0] == "found":
        return (number, stamp, seen) == (1, 1, ((author, 1),)) and author not in body[2]
    return stamp >= 2


def by_key(letters):
    """Return the list of the Letters by ascending keys, equal keys as passed."""
    return sorted(letters, key=lambda letter: (letter.stamp, letter.author))


def _is_seen(thing):
    """Return True if the object is a tuple of pairs of name and count by ascending names."""
    if type(thing) != tuple:
        return False
    # A pair of a name and a count has the form of a ref.
    return all([is_ref(pair) for pair in thing]) and are_ascending([pair[0] for pair in thing])
