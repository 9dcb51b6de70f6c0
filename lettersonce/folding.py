"""Folding long lines at their spaces, and unfolding them."""

from lettersonce.errors import BadMail

WIDTH = 60


def fold(line, width):
    """Return the list of the lines into which a line is folded."""
    lines = []
    start = 0
    while len(line) - start > width:
        cut = _cut_of(line, start, width)
        if cut < 0:
            break
        lines.append(line[start:cut])
        start = cut
    lines.append(line[start:])
    return lines


def unfold(lines):
    """Return the list of lines in which each line with a space in front is joined to the one before."""
    groups = []
    for line in lines:
        if not line.startswith(" "):
            groups.append([line])
        elif groups:
            groups[-1].append(line)
        else:
            raise BadMail("the first line begins with a space")
    return ["".join(group) for group in groups]


def _cut_of(line, start, width):
    """Return the index of the space to cut before, -1 if there is none; what is left begins at start."""
    behind = start + width + 1
    cut = line.rfind(" ", start + 1, behind)
    if cut < 0:
        cut = line.find(" ", behind)
    return cut
