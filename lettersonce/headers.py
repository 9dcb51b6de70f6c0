"""The header lines of a letter, written and read."""

from lettersonce.bodies import text_of
from lettersonce.errors import BadLetter, BadMail
from lettersonce.letters import Letter
from lettersonce.names import DIGITS

# The lines that each letter has, and those that stand behind them for each kind.
HEAD = ("From", "Stamp", "Seen", "Kind")
BEHIND = {
    "found": ("Title", "Members"),
    "say": ("Lines",),
    "reply": ("Ref", "Lines"),
    "edit": ("Ref", "Lines"),
    "recall": ("Ref",),
    "mark": ("Ref", "Word"),
    "title": ("Title",),
    "add": ("Name",),
    "cut": ("Name",),
    "hand": ("Name",),
    "seen": (),
}
MOST_DIGITS = 19


def header_lines(letter):
    """Return the list of the header lines of a Letter, not folded."""
    kind = letter.body[0]
    seen = ", ".join([_pair_words(pair) for pair in letter.seen])
    parts = [_pair_words(letter.ref), str(letter.stamp), seen, kind] + _body_parts(letter.body)
    return [f"{field}: {part}" for field, part in zip(HEAD + BEHIND[kind], parts)]


def read_headers(lines, text):
    """Return the Letter with these header lines and this text, None for no text. Raises BadMail."""
    parts = _parts_of(lines)
    author, number = _read_pair(parts[0])
    seen = tuple([_read_pair(words) for words in parts[2].split(", ")])
    body = _read_body(parts[3], parts[4:], text)
    value = (author, number, _read_number(parts[1]), seen, body)
    try:
        letter = Letter.from_value(value)
    except BadLetter:
        raise BadMail("these are not the header lines and the text of a letter") from None
    # The reading takes some lines that are not written so: writing decides.
    if header_lines(letter) != lines or text_of(letter.body) != text:
        raise BadMail("the header lines or the text are not as they are written")
    return letter


def _pair_words(pair):
    name, number = pair
    return f"{name} {number}"


def _body_parts(body):
    """Return the list of what stands in the lines behind the kind."""
    kind = body[0]
    if kind == "found":
        return [body[1], ", ".join(body[2])]
    if kind == "say":
        return [_count_lines(body[1])]
    if kind in ("reply", "edit"):
        return [_pair_words(body[1]), _count_lines(body[2])]
    if kind == "recall":
        return [_pair_words(body[1])]
    if kind == "mark":
        return [_pair_words(body[1]), body[2]]
    return list(body[1:])


def _count_lines(text):
    return str(text.count("\n") + 1)


def _parts_of(lines):
    """Return the list of what stands behind the words in front of the lines."""
    if len(lines) < len(HEAD):
        raise BadMail("header lines are missing")
    kind = _part_behind("Kind", lines[3])
    if kind not in BEHIND:
        raise BadMail("there is no such kind")
    fields = HEAD + BEHIND[kind]
    if len(lines) != len(fields):
        raise BadMail("there are not as many header lines as this kind has")
    return [_part_behind(field, line) for field, line in zip(fields, lines)]


def _part_behind(field, line):
    front = f"{field}: "
    if not line.startswith(front):
        raise BadMail("a header line does not begin with its word")
    return line[len(front):]


def _read_pair(words):
    name, _, digits = words.partition(" ")
    return (name, _read_number(digits))


def _read_number(digits):
    # Longer rows of digits are no number, and int refuses very long ones.
    if not 1 <= len(digits) <= MOST_DIGITS or not all([sign in DIGITS for sign in digits]):
        raise BadMail("a number is missing, too great or not in digits")
    return int(digits)


def _read_body(kind, parts, text):
    """Return the tuple that stands for a body; it need not be one yet."""
    if kind == "found":
        return (kind, parts[0], _read_names(parts[1]))
    if kind == "say":
        return (kind, text)
    if kind in ("reply", "edit"):
        return (kind, _read_pair(parts[0]), text)
    if kind == "recall":
        return (kind, _read_pair(parts[0]))
    if kind == "mark":
        return (kind, _read_pair(parts[0]), parts[1])
    return (kind, *parts)


def _read_names(words):
    if words == "":
        return ()
    return tuple(words.split(", "))
