"""Which held letters are settled, and which are the tail."""

from lettersonce.covers import count_of_all
from lettersonce.letters import by_key


def settled(ledger):
    """Return the list of the settled Letters of a ledger, in their order."""
    letters = counting(ledger)
    return letters[:_how_many_settled(ledger, letters)]


def tail(ledger):
    """Return the list of the Letters of the tail of a ledger, in their order."""
    letters = counting(ledger)
    return letters[_how_many_settled(ledger, letters):]


def counting(ledger):
    """Return the list of the held Letters that count, by their keys."""
    roll = ledger.roll
    return by_key([letter for letter in ledger if roll.counts(letter.ref)])


def _how_many_settled(ledger, letters):
    # What all have seen of each author is asked once, not for each letter.
    covers = {author: count_of_all(ledger, author) for author in ledger.authors()}
    for index, letter in enumerate(letters):
        if letter.number > covers[letter.author]:
            return index
    return len(letters)
