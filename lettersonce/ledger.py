"""The ledger of a room: the letters that are held, and those that wait."""

from lettersonce.bodies import is_act, is_body, target
from lettersonce.errors import BadBody, BadLetter, Contradiction, Exists, NotKeeper, NotMember, Unknown
from lettersonce.letters import Letter, by_key
from lettersonce.roll import roll_of


class Ledger:
    """A ledger that holds letters of one room, from its founding letter on."""

    def __init__(self, founding):
        if founding.body[0] != "found":
            raise BadLetter("a ledger begins with a founding letter")
        self.founder = founding.author
        self._letters = [founding]
        self._rows = {founding.author: [founding]}
        self._waiting = {}
        self._top = founding.stamp
        self._roll = roll_of(self.founder, self._rows)

    @property
    def roll(self):
        """The Roll to which the letters lead that are held at this moment."""
        return self._roll

    @property
    def top(self):
        """The greatest stamp of all held letters."""
        return self._top

    def __len__(self):
        return len(self._letters)

    def __iter__(self):
        return iter(self._letters)

    def __contains__(self, ref):
        name, number = ref
        return 1 <= number <= self.held(name)

    def held(self, name):
        """Return how many letters of this author are held."""
        return len(self._rows.get(name, ()))

    def authors(self):
        """Return the list of the authors of whom a letter is held, ascending."""
        return sorted(self._rows)

    def counts(self):
        """Return the tuple of the pairs of author and number of held letters, by ascending names."""
        return tuple([(name, self.held(name)) for name in self.authors()])

    def letter(self, ref):
        """Return the held Letter with this ref. Raises Unknown."""
        if ref not in self:
            raise Unknown("no letter with this ref is held")
        name, number = ref
        return self._rows[name][number - 1]

    def letters(self):
        """Return the list of all held Letters, in the order in which they were held."""
        return list(self._letters)

    def waiting(self):
        """Return the list of the refs of the waiting letters, ascending."""
        return sorted(self._waiting)

    def take(self, letter):
        """Take a Letter; return the list of the refs of the letters that are held by this, in order.

        Raises BadLetter or Contradiction.
        """
        if letter.body[0] == "found" and letter.value() != self._letters[0].value():
            raise BadLetter("this is the founding letter of another room")
        if self._is_there(letter) or self._roll.is_void(letter.ref):
            return []
        self._waiting[letter.ref] = letter
        return self._hold_what_can_be_held()

    def next_letter(self, author, body):
        """Return the new Letter of an author, which is not taken.

        Raises BadBody, NotMember, NotKeeper, Exists or Unknown.
        """
        self._check_new(author, body)
        number = self.held(author) + 1
        counts = dict(self.counts())
        counts[author] = number
        return Letter(author, number, self._top + 1, tuple(sorted(counts.items())), body)

    def _is_there(self, letter):
        """Return True if this letter is held or waits. Raises Contradiction if an unlike one does."""
        ref = letter.ref
        if ref in self:
            other = self.letter(ref)
        elif ref in self._waiting:
            other = self._waiting[ref]
        else:
            return False
        if other.value() != letter.value():
            raise Contradiction("an unlike letter has the same ref")
        return True

    def _hold_what_can_be_held(self):
        """Hold waiting letters until none can be held; return the list of their refs."""
        refs = []
        letter = self._next_to_hold()
        while letter is not None:
            del self._waiting[letter.ref]
            self._hold(letter)
            refs.append(letter.ref)
            letter = self._next_to_hold()
        if refs:
            # Only a letter that is held can make another one void.
            self._waiting = {ref: self._waiting[ref] for ref in self._waiting if not self._roll.is_void(ref)}
        return refs

    def _next_to_hold(self):
        """Return the waiting letter that is to be held next, None if none can be held."""
        # Of each author only one letter can be the next, however many wait.
        refs = [(name, self.held(name) + 1) for name in self._roll.known()]
        nexts = [self._waiting[ref] for ref in refs if ref in self._waiting]
        ready = by_key([letter for letter in nexts if self._can_be_next(letter)])
        return ready[0] if ready else None

    def _can_be_next(self, letter):
        """Return True if a letter can be held, whose author is known and whose number is the next one."""
        if self._roll.is_void(letter.ref):
            return False
        return all([self._has_enough(name, count) for name, count in letter.seen if name != letter.author])

    def _has_enough(self, name, count):
        """Return True if so many letters of an author are held, or all up to the limit."""
        held = self.held(name)
        # If the next letter would be void, the limit is reached, and no more can come.
        return held >= count or self._roll.is_void((name, held + 1))

    def _hold(self, letter):
        self._letters.append(letter)
        self._rows.setdefault(letter.author, []).append(letter)
        self._top = max(self._top, letter.stamp)
        # The reading of the acts has come to the keeper's last letter: no other letter adds to it.
        if letter.author == self._roll.keeper and is_act(letter.body):
            self._roll = roll_of(self.founder, self._rows)

    def _check_new(self, author, body):
        if not is_body(body) or body[0] == "found":
            raise BadBody("this is no body of a letter that may be written")
        if not self._roll.is_member(author):
            raise NotMember("the author is no member of the room")
        if is_act(body):
            self._check_act(author, body)
        ref = target(body)
        if ref is not None and ref not in self:
            raise Unknown("no letter with the ref of the target is held")

    def _check_act(self, author, body):
        kind, name = body
        if author != self._roll.keeper:
            raise NotKeeper("the author is not the keeper of the room")
        if kind == "add":
            if self._roll.is_known(name):
                raise Exists("the person is known in the room")
        elif not self._roll.is_member(name) or name == self._roll.keeper:
            raise Unknown("the person is not another member than the keeper")
