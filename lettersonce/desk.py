"""The desk of a person: the ledgers and histories of its rooms, and its diary."""

from lettersonce.bodies import is_body
from lettersonce.diary import entry, read_diary
from lettersonce.errors import BadBody, BadLetter, Contradiction, Exists, Unknown
from lettersonce.history import History
from lettersonce.ledger import Ledger
from lettersonce.letters import Letter, by_key
from lettersonce.names import is_name


class Desk:
    """The desk of the person with this name, made from the text of a diary."""

    def __init__(self, name, *, diary=""):
        self.name = name
        self._ledgers = {}
        self._histories = {}
        self._diary = ""
        self._saved = 0
        entries, _ = read_diary(diary)
        for room, letter in entries:
            self.take(room, letter)
        self.save()

    @property
    def diary(self):
        """The text of the entries of all held letters, in the order in which they were held."""
        return self._diary

    @property
    def saved(self):
        """The number of characters of the diary that are saved."""
        return self._saved

    def found(self, word, title, members):
        """Found a room and return it. Raises BadBody or Exists."""
        body = ("found", title, members)
        if not is_name(word) or not is_body(body) or self.name in members:
            raise BadBody("no room can be founded with this word, this title and these members")
        room = (self.name, word)
        if room in self._ledgers:
            raise Exists("the desk has a room of this name")
        self.take(room, Letter(self.name, 1, 1, ((self.name, 1),), body))
        self.save()
        return room

    def write(self, room, body):
        """Write a letter in a room and return its ref.

        Raises Unknown if the desk does not have the room, and what next_letter of the ledger raises.
        """
        letter = self.ledger(room).next_letter(self.name, body)
        self.take(room, letter)
        self.save()
        return letter.ref

    def take(self, room, letter):
        """Take a Letter of a room; return the list of the refs of the letters that are held by this, in order.

        Raises BadLetter or Contradiction.
        """
        if room in self._ledgers:
            refs = self._ledgers[room].take(letter)
        else:
            refs = self._begin(room, letter)
        if refs:
            self._keep(room, refs)
        return refs

    def save(self):
        """Save all of the diary."""
        self._saved = len(self._diary)

    def rooms(self):
        """Return the list of the rooms of the desk, ascending."""
        return sorted(self._ledgers)

    def ledger(self, room):
        """Return the Ledger of a room, to be looked at only. Raises Unknown."""
        if room not in self._ledgers:
            raise Unknown("the desk does not have this room")
        return self._ledgers[room]

    def history(self, room):
        """Return the list of the Letters of the history in a room, in order. Raises Unknown."""
        if room not in self._histories:
            raise Unknown("the desk does not have this room")
        return self._histories[room].letters()

    def tail(self, room):
        """Return the list of the held Letters that count and are not in the history, by their keys. Raises Unknown."""
        ledger = self.ledger(room)
        history = self._histories[room]
        return by_key([letter for letter in ledger if ledger.roll.counts(letter.ref) and letter.ref not in history])

    def have(self, room):
        """Return the counts of the ledger of a room, () without the room."""
        if room not in self._ledgers:
            return ()
        return self._ledgers[room].counts()

    def lacking(self, room, counts):
        """Return the list of the Letters that the desk can give against the counts, in the order of holding."""
        if room not in self._ledgers:
            return []
        ledger = self._ledgers[room]
        given = {name: number for name, number in counts}
        letters = [letter for letter in ledger if letter.number > given.get(letter.author, 0)]
        return [letter for letter in letters if ledger.roll.counts(letter.ref)]

    def handle(self, sender, parcel):
        """Handle a parcel; return the list of the answers, pairs of receiver and parcel."""
        word, room, told = parcel
        if word == "have":
            values = tuple([letter.value() for letter in self.lacking(room, told)])
            return [(sender, ("letters", room, values))] if values else []
        for value in told:
            self._take_value(room, value)
        return []

    def _begin(self, room, letter):
        """Begin a room with its founding letter; return the list of its ref. Any other letter does nothing."""
        if letter.body[0] != "found" or letter.author != room[0]:
            return []
        self._ledgers[room] = Ledger(letter)
        self._histories[room] = History()
        return [letter.ref]

    def _keep(self, room, refs):
        """Put the entries of letters that are held by now behind the diary, and update the history."""
        ledger = self._ledgers[room]
        self._diary += "".join([entry(room, ledger.letter(ref)) for ref in refs])
        self._histories[room].renew(ledger)

    def _take_value(self, room, value):
        try:
            self.take(room, Letter.from_value(value))
        except (BadLetter, Contradiction):
            # What others send may be wrong, and must not keep the rest of the parcel away.
            pass
