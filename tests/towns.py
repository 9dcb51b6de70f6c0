"""Busy towns, what towns tell, and a plain model of meetings, for several tests."""

import random

from lettersonce.ledger import Ledger
from lettersonce.town import Town

from desks import desk_state
from rooms import NAMES, some_body, values


def town_state(town):
    """Return all that a town tells."""
    return {
        "people": town.people,
        "up": [town.is_up(name) for name in town.people],
        "kept": [town.kept(name) for name in town.people],
        "desks": [desk_state(town.desk(name)) for name in town.people if town.is_up(name)],
        "parcels": [(number, town.post.parcel(number)) for number in town.post.numbers()],
        "sent": town.post.sent,
    }


def do(town, deed):
    """Do a deed by the method of its name; return what the method returns."""
    return getattr(town, deed[0])(*deed[1:])


def town_of(people, deeds):
    """Return a town in which these deeds were done."""
    town = Town(list(people))
    for deed in deeds:
        do(town, deed)
    return town


def fetch(town, name, other, room):
    """Let one desk ask another one, and deliver and lose what is put for it."""
    numbers = [town.ask(name, other, room)]
    for number in numbers:
        numbers.extend(town.deliver(number))
    for number in numbers:
        town.lose(number)


def have_room(town, room):
    """Return the names of the people whose desks are up and have a room."""
    return [name for name in town.people if town.is_up(name) and room in town.desk(name).rooms()]


class BusyTown:
    """A town in which honest people found rooms, write, ask, deliver, lose, save, stop and start as they like."""

    def __init__(self, seed, people=tuple(NAMES[:4]), many_rooms=1, acts=0.15, stops=0.03):
        self.chance = random.Random(seed)
        self.people = list(people)
        self.acts, self.stops = acts, stops
        self.town = Town(self.people)
        self.deeds = []
        self.delivered = set()
        self.rooms = []
        self.letters = {}
        for name in self.people[:many_rooms]:
            others = [other for other in self.people if other != name]
            members = self.chance.sample(others, self.chance.randint(min(1, len(others)), len(others)))
            room = self.do("found", name, "tea", "Tea", tuple(sorted(members)))
            self.rooms.append(room)
            self.letters[room] = [self.town.desk(name).ledger(room).letter((name, 1))]

    def do(self, *deed):
        """Do a deed, and keep it; return what it returns."""
        self.deeds.append(deed)
        return do(self.town, deed)

    def may_write(self, name, room):
        return name in have_room(self.town, room) and self.town.desk(name).ledger(room).roll.is_member(name)

    def write(self, name, room, body=None):
        """Let somebody write something, and keep the letter."""
        ledger = self.town.desk(name).ledger(room)
        ref = self.do("write", name, room, body or some_body(self.chance, ledger, name, self.people, self.acts))
        self.letters[room].append(self.town.desk(name).ledger(room).letter(ref))

    def step(self):
        """Let something happen that is possible."""
        chance, town = self.chance, self.town
        name, other, room = chance.choice(self.people), chance.choice(self.people), chance.choice(self.rooms)
        numbers = [number for number in town.post.numbers() if town.is_up(town.post.parcel(number)[1])]
        luck = chance.random()
        if luck < 0.25 and self.may_write(name, room):
            self.write(name, room)
        elif luck < 0.55 and town.is_up(name):
            self.do("ask", name, other, room)
        elif luck < 0.87 and numbers:
            # Mostly what was not delivered yet, so that much arrives, and sometimes what was.
            new = [number for number in numbers if number not in self.delivered]
            number = chance.choice(new if new and chance.random() < 0.8 else numbers)
            self.delivered.add(number)
            self.do("deliver", number)
        elif luck < 0.89 and town.post.numbers():
            self.do("lose", chance.choice(town.post.numbers()))
        elif luck < 0.91 and town.is_up(name):
            self.do("save", name)
        elif luck < 0.91 + self.stops:
            self.do("stop", name, chance.choice([0, 1, chance.randint(0, 500), 10 ** 6]))
        else:
            self.do("start", name)

    def all_letters(self, room):
        """Return a ledger that has taken all letters of a room that were ever written."""
        ledger = Ledger(self.letters[room][0])
        for row in self.letters[room]:
            ledger.take(row)
        assert ledger.waiting() == []
        return ledger


def plain_meet(town, room):
    """Hold a meeting as points 9.6 and 9.7 say, deed by deed; return how many parcels were delivered."""
    delivered = []

    def asks(name, other):
        if room in town.desk(other).rooms() and name in town.desk(other).ledger(room).roll.members():
            town.ask(name, other, room)
            while town.post.numbers():
                least = min(town.post.numbers())
                town.deliver(least)
                town.lose(least)
                delivered.append(least)

    def has():
        return {name: town.desk(name).have(room) for name in town.people}

    def exchange():
        changed = True
        while changed:
            before = has()
            pairs = [(name, other) for name in town.people for other in town.people if name != other]
            for name, other in pairs:
                asks(name, other)
            changed = has() != before

    for name in town.people:
        if not town.is_up(name):
            town.start(name)
    while town.post.numbers():
        town.lose(town.post.numbers()[-1])
    exchange()
    for name in town.people:
        if room in town.desk(name).rooms() and name in town.desk(name).ledger(room).roll.members():
            town.write(name, room, ("seen",))
    exchange()
    return len(delivered)


def one_begins_the_other(one, other):
    """Return True if one list is a beginning of the other one."""
    many = min(len(one), len(other))
    return one[:many] == other[:many]


def history_values(town, name, room):
    return values(town.desk(name).history(room))
