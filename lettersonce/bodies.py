"""The bodies of letters: tuples that begin with their kind."""

from lettersonce.names import are_ascending, is_name, is_ref, is_text, is_title

# How many items the body of each kind has, the kind included.
LENGTHS = {
    "found": 3,
    "say": 2,
    "reply": 3,
    "edit": 3,
    "recall": 2,
    "mark": 3,
    "title": 2,
    "add": 2,
    "cut": 2,
    "hand": 2,
    "seen": 1,
}
MOST_MEMBERS = 15


def is_body(thing):
    """Return True if the object is a body. Any object may be passed."""
    if type(thing) != tuple or len(thing) == 0:
        return False
    kind = thing[0]
    # Only a string may be looked up: another object may have no hash.
    if type(kind) != str or LENGTHS.get(kind, 0) != len(thing):
        return False
    return _parts_fit(thing)


def is_act(body):
    """Return True if a body is an act."""
    return body[0] in ("add", "cut", "hand")


def target(body):
    """Return the target of a body, None if it has none."""
    if body[0] in ("reply", "edit", "recall", "mark"):
        return body[1]
    return None


def text_of(body):
    """Return the text of a body, None if it has none."""
    if body[0] == "say":
        return body[1]
    if body[0] in ("reply", "edit"):
        return body[2]
    return None


def _parts_fit(body):
    """Return True if the parts behind the kind are right; kind and length are."""
    kind = body[0]
    if kind == "found":
        return is_title(body[1]) and _are_members(body[2])
    if kind == "title":
        return is_title(body[1])
    if kind == "say":
        return is_text(body[1])
    if kind in ("reply", "edit"):
        return is_ref(body[1]) and is_text(body[2])
    if kind == "recall":
        return is_ref(body[1])
    if kind == "mark":
        return is_ref(body[1]) and is_name(body[2])
    return kind == "seen" or is_name(body[1])


def _are_members(thing):
    if type(thing) != tuple or len(thing) > MOST_MEMBERS:
        return False
    return all([is_name(name) for name in thing]) and are_ascending(thing)
