"""Archives: the mail of many letters in one string."""

from lettersonce.errors import BadMail
from lettersonce.mail import mail_lines, read_mail


def archive(letters):
    """Return the archive of a list of Letters, a string."""
    lines = []
    for letter in letters:
        lines.extend(mail_lines(letter))
    return "".join([line + "\n" for line in lines])


def read_archive(text):
    """Return the list of the Letters of an archive. Raises BadMail."""
    letters, length = read_beginning(text)
    if length != len(text):
        raise BadMail("behind the letters stands something else")
    return letters


def read_beginning(text):
    """Return the list of the Letters whose mail begins a string, and the length of their mail."""
    # What stands behind the last newline is not a line.
    lines = text.split("\n")[:-1]
    letters = []
    at = 0
    while at < len(lines):
        try:
            letter, at = read_mail(lines, at)
        except BadMail:
            break
        letters.append(letter)
    return letters, sum([len(line) + 1 for line in lines[:at]])
