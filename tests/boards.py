"""Letters for boards, and what boards tell, for several tests."""

import random

from lettersonce.board import board_of
from lettersonce.letters import Letter

from rooms import NAMES, founding

ROOM = ("anna", "tea")
KINDS = ["say", "say", "reply", "reply", "reply", "title", "add", "cut", "hand", "seen", "recall"] + ["edit", "mark"] * 4


class Writer:
    """Letters of a room, one behind the other, each of which has seen all letters before it."""

    def __init__(self, *members, author="anna", title="Tea"):
        self.letters = [founding(*members, author=author, title=title)]

    def write(self, author, *body):
        """Write a letter; return its ref."""
        counts = {}
        for row in self.letters:
            counts[row.author] = row.number
        counts[author] = counts.get(author, 0) + 1
        row = Letter(author, counts[author], self.letters[-1].stamp + 1, tuple(sorted(counts.items())), tuple(body))
        self.letters.append(row)
        return row.ref

    def board(self):
        return board_of(self.letters)


def board_with(*bodies):
    """Return a board of letters by anna, numbered from 1 on, behind which nothing else stands."""
    return board_of([Letter("anna", number, number + 1, (("anna", number),), body) for number, body in enumerate(bodies, start=1)])


def item_state(item):
    """Return all that an item tells."""
    return (item.ref, item.author, item.text, item.parent, item.edits, item.recalled, item.marks())


def board_state(board):
    """Return all that a board tells."""
    return {
        "title": board.title,
        "founder": board.founder,
        "items": [item_state(item) for item in board],
        "length": len(board),
        "in": [(name, number) for name in NAMES for number in range(1, 12) if (name, number) in board],
        "notices": board.notices(),
    }


def some_letters(seed, many, people=tuple(NAMES[:4]), kinds=None):
    """Return letters with bodies of all kinds, which name letters that are there, or later, or never."""
    chance = random.Random(seed)
    writer = Writer(*people[1:], author=people[0])
    kinds = kinds or KINDS
    for number in range(many):
        kind, name = chance.choice(kinds), chance.choice(people)
        # Mostly an item of late, and sometimes anything, so that much comes together at some items.
        items = [row for row in writer.letters[-40:] if row.body[0] in ("say", "reply")][-4:]
        ref = chance.choice(items if items and chance.random() < 0.7 else writer.letters).ref
        if chance.random() < 0.1:
            ref = (chance.choice(people + ("zoe",)), chance.randint(1, many))
        if kind in ("edit", "recall") and ref[0] in people and chance.random() < 0.6:
            name = ref[0]
        body = {
            "say": ("say", f"text {number}"), "reply": ("reply", ref, f"reply {number}"), "edit": ("edit", ref, f"edit {number}"),
            "recall": ("recall", ref), "mark": ("mark", ref, chance.choice(["star", "no", "yes"])),
            "title": ("title", chance.choice(["", "Coffee", "Milk"])), "seen": ("seen",),
        }.get(kind, (kind, chance.choice(people)))
        writer.write(name, *body)
    return writer.letters
