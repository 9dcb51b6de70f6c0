"""Meetings: all desks of a town exchange the letters of a room until all have all."""


def meet(town, room):
    """Hold a meeting for a room; return how many parcels were delivered."""
    for name in town.people:
        town.start(name)
    numbers = town.post.numbers()
    for number in numbers:
        town.lose(number)
    many = _exchange(town, room)
    # These letters show each member what all the others have seen.
    for name in town.people:
        if _is_member(town.desk(name), name, room):
            town.write(name, room, ("seen",))
    return many + _exchange(town, room)


def _exchange(town, room):
    """Go round until a whole round changes nothing; return how many parcels were delivered."""
    many = 0
    before = None
    now = _all_have(town, room)
    while now != before:
        before = now
        many += _go_round(town, room)
        now = _all_have(town, room)
    return many


def _all_have(town, room):
    """Return the list of what each desk has of a room."""
    return [town.desk(name).have(room) for name in town.people]


def _go_round(town, room):
    """Give each pair of people its turn; return how many parcels were delivered."""
    many = 0
    for name in town.people:
        for other in town.people:
            if name != other and _is_member(town.desk(other), name, room):
                many += _take_turn(town, name, other, room)
    return many


def _take_turn(town, name, other, room):
    """Let a desk ask another one, and deliver until the post is empty; return how many parcels were delivered."""
    town.ask(name, other, room)
    many = 0
    while len(town.post) > 0:
        number = town.post.numbers()[0]
        town.deliver(number)
        town.lose(number)
        many += 1
    return many


def _is_member(desk, name, room):
    """Return True if a desk has a room, and somebody is a member by the roll of this desk."""
    return room in desk.rooms() and desk.ledger(room).roll.is_member(name)
