"""Threads: the items of a board, each with its replies below it.

Replies may be as deep as there are items, so that nothing here calls itself.
"""

from lettersonce.errors import Unknown


def walk(board):
    """Give the pairs of depth and Item: each root in order, followed by all that is below it."""
    rows = _rows_of_replies(board)
    # The pairs that are still to come, the next one last.
    left = [(0, item) for item in reversed(rows.get(None, []))]
    while left:
        depth, item = left.pop()
        yield (depth, item)
        left.extend([(depth + 1, reply) for reply in reversed(rows.get(item.ref, []))])


def replies(board, ref):
    """Return the list of the refs of the replies to an item, in order. Raises Unknown."""
    _must_have(board, ref)
    return [item.ref for item in board if item.parent == ref]


def below(board, ref):
    """Return how many items are below an item. Raises Unknown."""
    _must_have(board, ref)
    found = {ref: True}
    # A parent always stands ahead of its replies.
    for item in board:
        if item.parent in found:
            found[item.ref] = True
    return len(found) - 1


def path(board, ref):
    """Return the list of the refs from a root down to an item. Raises Unknown."""
    refs = []
    at = ref
    while at is not None:
        refs.append(at)
        at = board.item(at).parent
    return refs[::-1]


def _rows_of_replies(board):
    """Return a dict from refs to the lists of the replies to them, from None to the list of the roots."""
    rows = {}
    for item in board:
        rows.setdefault(item.parent, []).append(item)
    return rows


def _must_have(board, ref):
    if ref not in board:
        raise Unknown("the board has no item with this ref")
