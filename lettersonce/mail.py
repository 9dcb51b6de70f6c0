"""The mail of a letter: folded header lines, the lines of its text, and a period."""

from lettersonce.bodies import text_of
from lettersonce.errors import BadMail
from lettersonce.folding import WIDTH, fold, unfold
from lettersonce.headers import header_lines, read_headers

BAR = "|"
PERIOD = "."


def mail_lines(letter):
    """Return the list of the lines of the mail of a Letter."""
    lines = []
    for line in header_lines(letter):
        lines.extend(fold(line, WIDTH))
    lines.append("")
    text = text_of(letter.body)
    if text is not None:
        lines.extend([BAR + line for line in text.split("\n")])
    lines.append(PERIOD)
    return lines


def read_mail(lines, at):
    """Return the Letter whose mail begins at an index, and the index behind it. Raises BadMail."""
    gap = _empty_line(lines, at)
    end = _end_of_text(lines, gap + 1)
    if end == len(lines) or lines[end] != PERIOD:
        raise BadMail("no line with a period alone ends the mail")
    text = _text_in(lines[gap + 1:end])
    return read_headers(unfold(lines[at:gap]), text), end + 1


def _empty_line(lines, at):
    """Return the index of the first empty line from an index on."""
    for index in range(at, len(lines)):
        if lines[index] == "":
            return index
    raise BadMail("no empty line ends the head")


def _end_of_text(lines, at):
    """Return the index behind the lines with a bar that stand at an index."""
    end = at
    while end < len(lines) and lines[end].startswith(BAR):
        end += 1
    return end


def _text_in(lines):
    """Return the text of lines with a bar, None if there is no line."""
    if len(lines) == 0:
        return None
    return "\n".join([line[len(BAR):] for line in lines])
