"""What a ledger shows that members have seen."""

from lettersonce.errors import Unknown


def seen_by(ledger, name, ref):
    """Return True if the ledger shows that the member has seen the letter with this ref. Raises Unknown."""
    if not ledger.roll.is_member(name):
        raise Unknown("nobody of this name is a member of the room")
    author, number = ref
    return _count_of(ledger, name, author) >= number


def seen_by_all(ledger, ref):
    """Return True if the ledger shows that each member has seen the letter with this ref."""
    author, number = ref
    return count_of_all(ledger, author) >= number


def count_of_all(ledger, author):
    """Return how many letters of an author each member has seen, as the ledger shows."""
    return min([_count_of(ledger, name, author) for name in ledger.roll.members()])


def _count_of(ledger, name, author):
    """Return how many letters of an author a member has seen, as the ledger shows."""
    count = ledger.roll.came_by(name).count(author)
    held = ledger.held(name)
    if held == 0:
        return count
    return max(count, ledger.letter((name, held)).count(author))
