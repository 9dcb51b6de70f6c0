"""The exam: whether histories of one room are as they should be."""


class Reading:
    """What is known of the letters of one history that were read so far."""

    def __init__(self):
        self._refs = {}
        self._key = None
        self._numbers = {}
        # For each name the greatest count that stands with it in a letter, and in how many letters one stands.
        self._greatest = {}
        self._many_with = {}
        self._many = 0

    def fault_of(self, letter):
        """Return the word for what is wrong with the letter that comes next, None if nothing is."""
        if letter.ref in self._refs:
            return "twice"
        if letter.number != self._numbers.get(letter.author, 0) + 1:
            return "gap"
        if self._key is not None and letter.key <= self._key:
            return "order"
        if self._is_seen(letter):
            return "behind"
        return None

    def take(self, letter):
        """Keep what is needed of the next letter."""
        self._refs[letter.ref] = True
        self._key = letter.key
        self._numbers[letter.author] = letter.number
        for name, count in letter.seen:
            self._greatest[name] = max(count, self._greatest.get(name, count))
            self._many_with[name] = self._many_with.get(name, 0) + 1
        self._many += 1

    def _is_seen(self, letter):
        """Return True if one of the letters that were read has seen this one."""
        name = letter.author
        if name in self._greatest and self._greatest[name] >= letter.number:
            return True
        # A letter without a count for the name has the count 0 for it.
        return self._many_with.get(name, 0) < self._many and letter.number <= 0


def exam(histories):
    """Return the list of the findings for a list of lists of Letters: tuples of a word, an index and a place."""
    findings = []
    # For each place the unlike values that stand there in the lists that were looked at.
    values = []
    for index, letters in enumerate(histories):
        reading = Reading()
        for place, letter in enumerate(letters):
            if place == len(values):
                values.append([])
            word = reading.fault_of(letter)
            if word is None and _is_unlike(letter, values[place]):
                word = "unlike"
            if word is not None:
                findings.append((word, index, place))
            if letter.value() not in values[place]:
                values[place].append(letter.value())
            reading.take(letter)
    return findings


def _is_unlike(letter, values):
    """Return True if one of some values is not that of a letter."""
    return any([value != letter.value() for value in values])
