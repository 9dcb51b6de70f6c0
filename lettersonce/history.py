"""The history of a room: the settled letters of one ledger, kept in their order."""

from heapq import heappop, heappush

from lettersonce.covers import seen_by_all


class History:
    """The settled letters of one ledger, as far as it has been updated."""

    def __init__(self):
        self._letters = []
        self._refs = {}
        # Of the held letters that were looked at, those that are not settled: their keys and places, least first.
        self._rest = []
        self._looked_at = 0

    def __len__(self):
        return len(self._letters)

    def __iter__(self):
        return iter(self._letters)

    def __contains__(self, ref):
        return ref in self._refs

    def letters(self):
        """Return the list of the Letters of the history, in order."""
        return list(self._letters)

    def renew(self, ledger):
        """Put the letters behind that are settled by now; return the list of them, in order."""
        held = ledger.letters()
        for place in range(self._looked_at, len(held)):
            heappush(self._rest, (held[place].key, place))
        self._looked_at = len(held)
        # In an honest room settled letters stay settled, so that only the rest has to be asked.
        found = self._take_settled(ledger, held)
        self._letters.extend(found)
        for letter in found:
            self._refs[letter.ref] = True
        return found

    def _take_settled(self, ledger, held):
        """Take the letters that are settled out of the rest; return the list of them, in order."""
        found = []
        while self._rest:
            letter = held[self._rest[0][1]]
            if ledger.roll.counts(letter.ref):
                if not seen_by_all(ledger, letter.ref):
                    break
                found.append(letter)
            # A letter that does not count now is void, and stays so.
            heappop(self._rest)
        return found
