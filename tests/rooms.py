"""Letters of rooms, rooms of honest people, and a plain model of rolls and ledgers, for several tests.

The model does what points 4.1 to 6.3 say, one after the other, without a thought for speed.
"""

import random

from lettersonce.ledger import Ledger
from lettersonce.letters import Letter

NAMES = ["anna", "bert", "carl", "dora", "emil", "fred", "gina", "hans"]
WORDS = ["star", "no", "yes"]


def founding(*members, author="anna", title="tea"):
    return Letter(author, 1, 1, ((author, 1),), ("found", title, tuple(sorted(members))))


def letter(author, number, stamp, body=("seen",), **counts):
    """Return a letter that has seen itself, and what the counts say."""
    counts[author] = number
    return Letter(author, number, stamp, tuple(sorted(counts.items())), body)


def ledger_of(*letters):
    """Return a ledger that has taken these letters, the founding letter first."""
    ledger = Ledger(letters[0])
    for row in letters[1:]:
        ledger.take(row)
    return ledger


def refs(letters):
    return [row.ref for row in letters]


def values(letters):
    return [row.value() for row in letters]


def roll_state(roll):
    """Return all that a roll tells of its people."""
    people = roll.members() + list(roll.cuts())
    return {
        "founder": roll.founder,
        "keeper": roll.keeper,
        "members": roll.members(),
        "cuts": list(roll.cuts().items()),
        "came": [(name, roll.came_by(name).value()) for name in people],
        "limits": [(name, roll.limit(name)) for name in people],
        "known": [name for name in NAMES if roll.is_known(name)],
        "are members": [name for name in NAMES if roll.is_member(name)],
        "count": [(name, number) for name in NAMES for number in range(1, 9) if roll.counts((name, number))],
    }


def state(ledger):
    """Return all that a ledger tells."""
    return {
        "founder": ledger.founder,
        "letters": values(ledger.letters()),
        "iteration": values(list(ledger)),
        "length": len(ledger),
        "waiting": ledger.waiting(),
        "held": [(name, ledger.held(name)) for name in NAMES],
        "authors": ledger.authors(),
        "counts": ledger.counts(),
        "top": ledger.top,
        "in": [(name, number) for name in NAMES for number in range(1, 9) if (name, number) in ledger],
        "roll": roll_state(ledger.roll),
    }


def counting(ledger):
    """Return the values of the held letters that count, ascending."""
    return sorted(values([row for row in ledger if ledger.roll.counts(row.ref)]))


class PlainRoll:
    """The roll to which rows of letters lead, by points 4.1 to 4.5."""

    def __init__(self, founder, rows):
        first = rows[founder][0]
        self.founder = self.keeper = founder
        self.came = {name: first for name in [founder] + list(first.body[2])}
        self.limits = {}
        left = rows[founder][1:]
        while left:
            left = self.read(left, rows)

    def read(self, left, rows):
        """Read the first of the letters; return those that are read from then on."""
        act, kind = left[0], left[0].body[0]
        if kind not in ("add", "cut", "hand"):
            return left[1:]
        name = act.body[1]
        if kind == "add" and not self.is_known(name):
            self.came[name] = act
        if kind == "cut" and self.is_member(name) and name != self.keeper:
            self.limits[name] = dict(act.seen).get(name, 0)
        if kind == "hand" and self.is_member(name) and name != self.keeper:
            self.keeper = name
            row = rows.get(name, [])
            while row and not row[0].has_seen(act.ref):
                row = row[1:]
            return row
        return left[1:]

    def is_known(self, name):
        return name in self.came

    def is_member(self, name):
        return name in self.came and name not in self.limits

    def members(self):
        return [name for name in self.came if self.is_member(name)]

    def cuts(self):
        return dict(self.limits)

    def came_by(self, name):
        return self.came[name]

    def limit(self, name):
        return self.limits.get(name)

    def counts(self, ref):
        return self.is_member(ref[0]) or ref[0] in self.limits and ref[1] <= self.limits[ref[0]]

    def is_void(self, ref):
        return ref[0] in self.limits and ref[1] > self.limits[ref[0]]


class PlainLedger:
    """The ledger of points 5.1 to 5.5."""

    def __init__(self, first):
        self.founder = first.author
        self.order = [first]
        self.waits = []

    @property
    def roll(self):
        rows = {}
        for row in self.order:
            rows.setdefault(row.author, []).append(row)
        return PlainRoll(self.founder, rows)

    @property
    def top(self):
        return max([row.stamp for row in self.order])

    def __len__(self):
        return len(self.order)

    def __iter__(self):
        return iter(self.order)

    def __contains__(self, ref):
        return ref in refs(self.order)

    def letters(self):
        return list(self.order)

    def held(self, name):
        return len([row for row in self.order if row.author == name])

    def authors(self):
        return sorted(set([row.author for row in self.order]))

    def counts(self):
        return tuple([(name, self.held(name)) for name in self.authors()])

    def waiting(self):
        return sorted(refs(self.waits))

    def can_be_held(self, row):
        roll = self.roll
        if not roll.is_known(row.author) or roll.is_void(row.ref) or row.number != self.held(row.author) + 1:
            return False
        for name, count in row.seen:
            if name != row.author:
                if roll.limit(name) is not None and roll.limit(name) < count:
                    count = roll.limit(name)
                if self.held(name) < count:
                    return False
        return True

    def take(self, row):
        """Take a letter; return the refs that are held by this, or the name of an error."""
        if row.body[0] == "found" and row.value() != self.order[0].value():
            return "BadLetter"
        for other in self.order + self.waits:
            if other.ref == row.ref:
                return [] if other.value() == row.value() else "Contradiction"
        if self.roll.is_void(row.ref):
            return []
        self.waits.append(row)
        before = len(self.order)
        ready = [row]
        while ready:
            ready = sorted([row for row in self.waits if self.can_be_held(row)], key=lambda row: row.key)
            if ready:
                self.waits.remove(ready[0])
                self.order.append(ready[0])
        self.waits = [row for row in self.waits if not self.roll.is_void(row.ref)]
        return refs(self.order[before:])


def plain_seen_by(ledger, name, ref):
    """Return what point 6.1 says of a member."""
    own = [row for row in ledger if row.author == name]
    return any([row.has_seen(ref) for row in [ledger.roll.came_by(name)] + own[-1:]])


def plain_settled(ledger):
    """Return the settled letters and the tail, as points 6.2 and 6.3 say."""
    counting_ones = sorted([row for row in ledger if ledger.roll.counts(row.ref)], key=lambda row: row.key)
    for many, row in enumerate(counting_ones):
        if not all([plain_seen_by(ledger, name, row.ref) for name in ledger.roll.members()]):
            return counting_ones[:many], counting_ones[many:]
    return counting_ones, []


def some_body(chance, ledger, name, people, acts):
    """Return a body with which a member may write a letter now; acts is how often a keeper acts."""
    roll = ledger.roll
    ref = chance.choice(ledger.letters()).ref
    if name == roll.keeper and chance.random() < acts:
        others = [other for other in roll.members() if other != name]
        bodies = [("add", other) for other in people if not roll.is_known(other)]
        bodies += [("hand", other) for other in others] + [("cut", other) for other in others[1:]]
        if bodies:
            return chance.choice(bodies)
    return chance.choice([
        ("say", "hello"), ("reply", ref, "yes"), ("edit", ref, "no"), ("recall", ref),
        ("mark", ref, chance.choice(WORDS)), ("title", "coffee"), ("seen",),
    ])


class HonestRoom:
    """A room of people who write honest letters, each for a ledger of their own."""

    def __init__(self, seed, people=NAMES, members=None, acts=0.15):
        self.chance = random.Random(seed)
        self.people = list(people)
        self.acts = acts
        first = founding(*(people[1:3] if members is None else members), author=people[0])
        self.ledgers = {name: Ledger(first) for name in people}
        self.letters = [first]

    def write(self, name, body):
        """Write and take a letter; return it."""
        row = self.ledgers[name].next_letter(name, body)
        self.ledgers[name].take(row)
        self.letters.append(row)
        return row

    def body(self, name):
        """Return a body with which this member may write a letter now."""
        return some_body(self.chance, self.ledgers[name], name, self.people, self.acts)

    def send(self, sender, receiver, share=1.0):
        """Let one ledger take a share of what another one holds, in any order."""
        rows = [row for row in self.ledgers[sender] if row.ref not in self.ledgers[receiver]]
        self.chance.shuffle(rows)
        for row in rows[:round(len(rows) * share)]:
            self.ledgers[receiver].take(row)

    def step(self):
        """Let somebody write, or let one take what another one holds; return the name of who did."""
        name = self.chance.choice(self.people)
        if self.chance.random() < 0.5 and self.ledgers[name].roll.is_member(name):
            self.write(name, self.body(name))
        else:
            self.send(self.chance.choice(self.people), name, self.chance.choice([0.5, 1.0, 1.0]))
        return name

    def meet(self):
        """Let each ledger take all letters of the room."""
        for name in self.people:
            for row in self.letters:
                self.ledgers[name].take(row)


def honest_letters(seed, steps, **options):
    """Return the letters of an honest room behind so many steps, in the order in which they were written."""
    room = HonestRoom(seed, **options)
    for _ in range(steps):
        room.step()
    return room.letters


def odd_letter(chance, rows, names, ahead):
    """Return a letter that follows the rows, of which nobody is sure that it is honest.

    Its stamp is greater than that of each letter in the rows. It may have seen letters that are not there yet.
    """
    author = chance.choice(names)
    number = len(rows.get(author, [])) + 1
    counts = {author: number}
    for name in names:
        many = chance.choice([0, len(rows.get(name, [])), chance.randint(0, len(rows.get(name, [])) + ahead)])
        if name != author and many > 0:
            counts[name] = many
    stamp = 1 + max([row.stamp for row in sum(rows.values(), [])])
    kind = chance.choice(["say", "say", "seen", "seen", "add", "cut", "hand"])
    body = (kind,) if kind == "seen" else (kind, chance.choice(names))
    return Letter(author, number, stamp, tuple(sorted(counts.items())), body)


def odd_rows(seed, many, names=tuple(NAMES[:5]), ahead=0):
    """Return rows of letters, of which nobody is sure that they are honest."""
    chance = random.Random(seed)
    rows = {names[0]: [founding(*names[1:3], author=names[0])]}
    for _ in range(many):
        row = odd_letter(chance, rows, names, ahead)
        rows.setdefault(row.author, []).append(row)
    return rows
