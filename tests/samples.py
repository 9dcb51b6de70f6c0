"""Bodies, letters and odd objects that several tests use."""

from lettersonce.letters import Letter

# One body of each kind.
BODIES = {
    "found": ("found", "Tea at five", ("bert", "carl")),
    "say": ("say", "Hello\nthere"),
    "reply": ("reply", ("anna", 3), "one\ntwo"),
    "edit": ("edit", ("bert", 1), "one\ntwo"),
    "recall": ("recall", ("anna", 4)),
    "mark": ("mark", ("anna", 2), "star"),
    "title": ("title", "Tea at six"),
    "add": ("add", "dora"),
    "cut": ("cut", "carl"),
    "hand": ("hand", "bert"),
    "seen": ("seen",),
}
SEEN = (("anna", 4), ("bert", 2))
GREATEST = 10 ** 18


def value_of(body):
    """Return a letter value with this body."""
    if body[0] == "found":
        return ("anna", 1, 1, (("anna", 1),), body)
    return ("bert", 2, 5, SEEN, body)


def letter_of(body):
    return Letter(*value_of(body))


def letters():
    """Return a new list of a letter of each kind."""
    return [letter_of(body) for body in BODIES.values()]


def long_letters():
    """Return a new list of letters at the limits, and of such as are easily read wrong."""
    people = tuple([f"person{number:06d}" for number in range(10, 25)])
    crowd = (("a", 1), ("a1", GREATEST), ("anna", GREATEST), ("anna1", 3)) + tuple([(name, 9) for name in people])
    values = [
        value_of(("found", "", ())),
        value_of(("found", " a  b ", ("bert",))),
        value_of(("found", "word " * 12, people)),
        value_of(("title", "")),
        value_of(("title", "   ")),
        value_of(("title", "a, b: c | d . 1 ~")),
        value_of(("title", "t" * 60)),
        value_of(("say", ".")),
        value_of(("say", "\n")),
        value_of(("say", "\n\na b\n.\n|\n\n")),
        value_of(("say", " folded?")),
        value_of(("say", "From: anna 1\nStamp: 1\n\n.")),
        value_of(("say", "\n" * 400)),
        value_of(("say", "long " * 80)),
        value_of(("reply", ("anna", GREATEST), "~")),
        value_of(("mark", ("a1b2c3d4e5f6", 1), "z")),
        ("anna", GREATEST, GREATEST, crowd, ("edit", ("anna1", 3), "one\n\ntwo")),
        ("bert", 1, 2, (("bert", 1),), ("seen",)),
    ]
    return [Letter(*value) for value in values]


class Touchy:
    """An object that raises an error whatever is asked of it."""

    def _refuse(self, *_):
        raise ArithmeticError("this object must not be touched")

    __eq__ = __ne__ = __lt__ = __le__ = __gt__ = __ge__ = _refuse
    __hash__ = __len__ = __iter__ = __bool__ = __contains__ = __getitem__ = __getattr__ = _refuse
    __int__ = __index__ = __str__ = __repr__ = __format__ = __add__ = __radd__ = _refuse


class TouchyText(str):
    """A string of a class of its own that raises an error whatever is asked of it."""

    __eq__ = __ne__ = __lt__ = __le__ = __gt__ = __ge__ = Touchy._refuse
    __hash__ = __len__ = __iter__ = __contains__ = __getitem__ = Touchy._refuse


class TouchyTuple(tuple):
    """A tuple of a class of its own that raises an error whatever is asked of it."""

    __eq__ = __ne__ = __lt__ = __le__ = __gt__ = __ge__ = Touchy._refuse
    __hash__ = __len__ = __iter__ = __contains__ = __getitem__ = Touchy._refuse


def odd_things():
    """Return a new list of objects that are no name, number, text, title, ref, room, body and letter value."""
    return [
        None, True, False, 0, -1, 1.0, 2.5, 10 ** 18 + 1, -(10 ** 30), 10 ** 5000, float("nan"), 1j,
        "\t", "a\tb", "\x7f", "\x00", "\u00e9", "\u0661", "\ud800", "a" * 401, b"", b"anna", bytearray(b"anna"),
        [], ["anna"], ["anna", 1], ["anna", "tea"], ["say", "hello"], [[]], (), ("anna",), (1, "anna"), ((),), ([],),
        (None, None), ({}, 1), ("anna", 1, 1), ("anna", "tea", "tea"), {}, {"anna": 1}, {"anna": 1, "tea": 2},
        set(), {"anna", "tea"}, frozenset(), object(), object, int, str, len, print, range(2), iter("ab"), (_ for _ in ()),
        lambda: True, Letter("anna", 1, 1, (("anna", 1),), ("found", "", ())), Touchy(), Touchy, ("anna", Touchy()),
        (Touchy(), 1), (Touchy(),), (Touchy(), Touchy(), Touchy(), Touchy(), Touchy()), ("say", Touchy()),
    ]
