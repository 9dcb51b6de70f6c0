"""The roll of a room: who its people are, and which letters count."""

from lettersonce.bodies import is_act
from lettersonce.errors import Unknown


class Roll:
    """The people of a room: members, those who were cut, and the keeper. Nothing of it changes."""

    def __init__(self, founder, keeper, came, limits):
        """Take the letters by which all known people came, and the limits of those who were cut."""
        self.founder = founder
        self.keeper = keeper
        self._came = dict(came)
        self._limits = dict(limits)

    def known(self):
        """Return the list of the names of all who are known, in the order in which they came."""
        return list(self._came)

    def members(self):
        """Return the list of the names of the members, in the order in which they came."""
        return [name for name in self._came if name not in self._limits]

    def cuts(self):
        """Return a dict from the names of those who were cut to their limits, in the order of the cuts."""
        return dict(self._limits)

    def is_known(self, name):
        """Return True if the name is that of a member or of somebody who was cut."""
        return name in self._came

    def is_member(self, name):
        """Return True if the name is that of a member."""
        return name in self._came and name not in self._limits

    def came_by(self, name):
        """Return the Letter by which a person came into the room. Raises Unknown."""
        self._must_know(name)
        return self._came[name]

    def limit(self, name):
        """Return the limit of a person who was cut, None for a member. Raises Unknown."""
        self._must_know(name)
        return self._limits.get(name)

    def counts(self, ref):
        """Return True if the letter with this ref counts, if there is one."""
        return self.is_known(ref[0]) and not self.is_void(ref)

    def is_void(self, ref):
        """Return True if the letter with this ref is void, if there is one."""
        name, number = ref
        return name in self._limits and number > self._limits[name]

    def _must_know(self, name):
        if name not in self._came:
            raise Unknown("nobody of this name is known in the room")


def roll_of(founder, rows):
    """Return the Roll to which the letters of a room lead; rows has the letters of each author."""
    founding = rows[founder][0]
    came = {name: founding for name in (founder, *founding.body[2])}
    limits = {}
    keeper = founder
    row, at = rows[founder], 1
    while at < len(row):
        letter = row[at]
        at += 1
        if not is_act(letter.body):
            continue
        kind, name = letter.body
        if kind == "add":
            came.setdefault(name, letter)
        elif _is_other_member(name, keeper, came, limits):
            if kind == "cut":
                limits[name] = letter.count(name)
            else:
                keeper = name
                row = rows.get(name, [])
                at = _first_that_has_seen(letter.ref, row)
    return Roll(founder, keeper, came, limits)


def _is_other_member(name, keeper, came, limits):
    """Return True if the name is that of a member who is not the keeper."""
    return name in came and name not in limits and name != keeper


def _first_that_has_seen(ref, row):
    """Return the index of the first letter that has seen the one with this ref, the length if none has."""
    for index, letter in enumerate(row):
        if letter.has_seen(ref):
            return index
    return len(row)
