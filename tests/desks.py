"""Desks whose people write in rooms, and what desks tell, for several tests."""

import random

from lettersonce.desk import Desk

from rooms import NAMES, roll_state, some_body, values


def desk_state(desk):
    """Return all that a desk tells."""
    return {
        "name": desk.name,
        "diary": desk.diary,
        "saved": desk.saved,
        "rooms": desk.rooms(),
        "have": [desk.have(room) for room in desk.rooms()],
        "letters": [values(desk.ledger(room)) for room in desk.rooms()],
        "waiting": [desk.ledger(room).waiting() for room in desk.rooms()],
        "rolls": [roll_state(desk.ledger(room).roll) for room in desk.rooms()],
        "histories": [values(desk.history(room)) for room in desk.rooms()],
        "tails": [values(desk.tail(room)) for room in desk.rooms()],
        "lacking": [values(desk.lacking(room, ())) for room in desk.rooms()],
    }


def ask(asker, other, room):
    """Let one desk ask another one, and handle the answers."""
    for receiver, parcel in other.handle(asker.name, ("have", room, asker.have(room))):
        assert receiver == asker.name
        asker.handle(other.name, parcel)


def exchange(desks, room):
    """Let desks ask each other until nothing is left to ask for."""
    before = None
    while before != [desk.have(room) for desk in desks]:
        before = [desk.have(room) for desk in desks]
        for asker in desks:
            for other in desks:
                if other is not asker:
                    ask(asker, other, room)


class HonestDesks:
    """Desks of people who write in some rooms, with a post that loses, delays and repeats parcels."""

    def __init__(self, seed, people=NAMES, many_rooms=2, acts=0.1, stops=0.02):
        self.chance = random.Random(seed)
        self.people = list(people)
        self.acts, self.stops = acts, stops
        self.desks = {name: Desk(name) for name in people}
        self.post = []
        self.rooms = []
        for name in self.people[:many_rooms]:
            others = [other for other in self.people if other != name]
            members = self.chance.sample(others, self.chance.randint(1, len(others)))
            self.rooms.append(self.desks[name].found("tea", "Tea", tuple(sorted(members))))

    def step(self):
        """Let one desk do something; return it."""
        name = self.chance.choice(self.people)
        room = self.chance.choice(self.rooms)
        desk = self.desks[name]
        luck = self.chance.random()
        if luck < 0.4:
            if room in desk.rooms() and desk.ledger(room).roll.is_member(name):
                desk.write(room, some_body(self.chance, desk.ledger(room), name, self.people, self.acts))
        elif luck < 0.6:
            self.post.append((name, self.chance.choice(self.people), ("have", room, desk.have(room))))
        elif luck < 0.9 and self.post:
            self.deliver(self.chance.choice(self.post))
        elif luck < 0.93 and self.post:
            self.post.pop(self.chance.randrange(len(self.post)))
        elif luck < 0.95:
            desk.save()
        elif luck < 0.95 + self.stops:
            self.restart(name)
        return self.desks[name]

    def deliver(self, put):
        """Deliver what was put into the post; it stays there."""
        sender, receiver, parcel = put
        for other, answer in self.desks[receiver].handle(sender, parcel):
            self.post.append((receiver, other, answer))

    def restart(self, name):
        """Stop a desk, which loses some of what is not saved, and start it again."""
        old = self.desks[name]
        text = old.diary[:old.saved + self.chance.randint(0, len(old.diary) - old.saved)]
        self.desks[name] = Desk(name, diary=text)
