"""The town: the desks of some people, and one post between them."""

from lettersonce.desk import Desk
from lettersonce.errors import BadValue, Down, Unknown
from lettersonce.names import is_name
from lettersonce.post import Post

MOST_PEOPLE = 8


class Town:
    """The people of a town, with a desk for each of them. What happens there happens by its methods."""

    def __init__(self, names):
        if not _are_people(names):
            raise BadValue("the people of a town are one to eight names, none of them twice")
        self.people = tuple(names)
        self.post = Post()
        self._desks = {name: Desk(name) for name in self.people}
        # Of each desk that is down, the text that is left of its diary.
        self._texts = {}

    def is_up(self, name):
        """Return True if the desk of this person is up. Raises Unknown."""
        self._must_know(name)
        return name in self._desks

    def desk(self, name):
        """Return the Desk of this person, to be looked at only. Raises Unknown or Down."""
        self._must_know(name)
        return self._up_desk(name)

    def kept(self, name):
        """Return the text of the diary of this person, what is left of it if the desk is down. Raises Unknown."""
        self._must_know(name)
        if name in self._texts:
            return self._texts[name]
        return self._desks[name].diary

    def found(self, name, word, title, members):
        """Let a desk found a room; return the room."""
        return self.desk(name).found(word, title, members)

    def write(self, name, room, body):
        """Let a desk write a letter; return its ref."""
        return self.desk(name).write(room, body)

    def save(self, name):
        """Let a desk save all of its diary."""
        self.desk(name).save()

    def ask(self, name, other, room):
        """Let the desk of a person ask that of another one for what it lacks of a room.

        Returns the number of the parcel that is put.
        """
        self._must_know(name)
        self._must_know(other)
        return self.post.put(name, other, ("have", room, self._up_desk(name).have(room)))

    def deliver(self, number):
        """Let the receiver's desk handle a parcel; return the list of the numbers of the answers."""
        sender, receiver, parcel = self.post.parcel(number)
        answers = self._up_desk(receiver).handle(sender, parcel)
        return [self.post.put(receiver, other, answer) for other, answer in answers]

    def lose(self, number):
        """Take a parcel out of the post."""
        self.post.lose(number)

    def stop(self, name, keep):
        """Let a desk go down; so many characters that are not saved are left of its diary, if there are as many."""
        if self.is_up(name):
            desk = self._desks[name]
            self._texts[name] = desk.diary[:desk.saved + keep]
            del self._desks[name]

    def start(self, name):
        """Make a desk that is down anew, from what is left of its diary."""
        if not self.is_up(name):
            self._desks[name] = Desk(name, diary=self._texts[name])
            del self._texts[name]

    def _up_desk(self, name):
        """Return the Desk of one of the people. Raises Down."""
        if name not in self._desks:
            raise Down("the desk is down")
        return self._desks[name]

    def _must_know(self, name):
        if name not in self.people:
            raise Unknown("nobody of this name lives in the town")


def _are_people(things):
    """Return True if the objects of a list are names of as many people as a town may have."""
    if not 1 <= len(things) <= MOST_PEOPLE or not all([is_name(thing) for thing in things]):
        return False
    return len(set(things)) == len(things)
