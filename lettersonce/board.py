"""Boards: what the letters of a room have to show."""

from lettersonce.bodies import is_act, target, text_of
from lettersonce.errors import Unknown


class Item:
    """What a letter with a text has put on a board, as later letters have changed it."""

    def __init__(self, ref, text, parent):
        self.author = ref[0]
        self.text = text
        self.parent = parent
        self.edits = 0
        self.recalled = False
        self._ref = ref
        # For each word the names under it, also for words that have no name any more.
        self._names = {}

    @property
    def ref(self):
        """The ref of the letter that has made the item."""
        return self._ref

    def marks(self):
        """Return the list of the pairs of a word and the tuple of the names under it, both ascending."""
        return [(word, tuple(sorted(self._names[word]))) for word in sorted(self._names) if self._names[word]]

    def edit(self, text):
        """Give the item a new text."""
        self.text = text
        self.edits += 1

    def recall(self):
        """Withdraw the item."""
        self.recalled = True
        self.text = ""
        self._names = {}

    def mark(self, word, name):
        """Put a name under a word of the marks, or take it away if it stands there."""
        names = self._names.setdefault(word, {})
        if name in names:
            del names[name]
        else:
            names[name] = True


class Board:
    """The title, the founder, the items and the notices of a room."""

    def __init__(self):
        self.title = ""
        self.founder = None
        self._items = {}
        self._notices = []

    def __len__(self):
        return len(self._items)

    def __iter__(self):
        return iter(self._items.values())

    def __contains__(self, ref):
        return ref in self._items

    def item(self, ref):
        """Return the Item with this ref. Raises Unknown."""
        if ref not in self._items:
            raise Unknown("the board has no item with this ref")
        return self._items[ref]

    def notices(self):
        """Return the list of the notices in order: tuples of a ref, the kind of the act and the name in it."""
        return list(self._notices)

    def show(self, letter):
        """Change the board as the next letter says."""
        kind = letter.body[0]
        if kind == "found":
            self.title = letter.body[1]
            self.founder = letter.author
        elif kind == "title":
            self.title = letter.body[1]
        elif kind in ("say", "reply"):
            self._put_item(letter)
        elif kind in ("edit", "recall", "mark"):
            self._change_item(letter)
        elif is_act(letter.body):
            self._notices.append((letter.ref, kind, letter.body[1]))

    def _put_item(self, letter):
        parent = target(letter.body)
        # Only what stands here by now has an item for sure: a letter may name itself, or a later one.
        if parent not in self._items:
            parent = None
        self._items[letter.ref] = Item(letter.ref, text_of(letter.body), parent)

    def _change_item(self, letter):
        item = self._items.get(target(letter.body))
        if item is None or item.recalled:
            return
        kind = letter.body[0]
        if kind == "mark":
            item.mark(letter.body[2], letter.author)
        elif item.author == letter.author:
            if kind == "edit":
                item.edit(letter.body[2])
            else:
                item.recall()


def board_of(letters):
    """Return the Board to which a list of Letters leads, in their order."""
    board = Board()
    for letter in letters:
        board.show(letter)
    return board
