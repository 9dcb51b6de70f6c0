"""Searching the items of boards by words."""

from lettersonce.names import DIGITS, LETTERS

CAPITALS = "ABCDEFGHIJKLMNOPQRSTUVWXYZ"


class Index:
    """The items of some boards by the words of their texts."""

    def __init__(self, boards):
        """Take the pairs of a room and a Board of a list."""
        # The pairs of a room and a ref of all items, and for each word their places, ascending.
        self._pairs = []
        self._places = {}
        for room, board in boards:
            for item in board:
                if not item.recalled:
                    self._put(room, item)

    def find(self, query):
        """Return the list of the pairs of a room and a ref of the items that are found by a query, in order."""
        rows = [self._places.get(word, {}) for word in words_of(query)]
        if len(rows) == 0:
            return []
        # The rarest word leaves the fewest items to look at.
        rows = sorted(rows, key=len)
        return [self._pairs[place] for place in rows[0] if all([place in row for row in rows])]

    def _put(self, room, item):
        place = len(self._pairs)
        self._pairs.append((room, item.ref))
        for word in words_of(item.text):
            # A dict keeps the places in their order.
            self._places.setdefault(word, {})[place] = True


def words_of(text):
    """Return the list of the unlike words of a text, ascending."""
    # The signs are asked before they are made small: some signs beyond ASCII turn into letters by that.
    signs = [sign if _is_of_word(sign) else " " for sign in text]
    return sorted(set("".join(signs).lower().split()))


def plain_find(boards, query):
    """Return what an Index of the boards finds, without making one."""
    words = words_of(query)
    if len(words) == 0:
        return []
    return [(room, item.ref) for room, board in boards for item in board if _is_found(item, words)]


def _is_of_word(sign):
    """Return True if a sign is a letter, a capital letter or a digit."""
    return sign in LETTERS or sign in CAPITALS or sign in DIGITS


def _is_found(item, words):
    """Return True if an item is not recalled and its text has each of the words."""
    if item.recalled:
        return False
    there = words_of(item.text)
    return all([word in there for word in words])
