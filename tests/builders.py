"""Trees and odd things that several tests use."""

ZERO = ("num", 0)
ONE = ("num", 1)
WORDS = ("num", "name", "fun", "call", "plus", "less", "if", "let")


def num(n):
    return ("num", n)


def name(x):
    return ("name", x)


def fun(x, body):
    return ("fun", x, body)


def call(function, value):
    return ("call", function, value)


def plus(first, second):
    return ("plus", first, second)


def less(first, second):
    return ("less", first, second)


def choice(which, first, second):
    return ("if", which, first, second)


def let(x, e, body):
    return ("let", x, e, body)


X = name("x")
SAME = fun("x", X)
TWICE = fun("x", call(X, X))

# Trees that never come to an end: one that stays as it is, one that grows around its next deed.
ENDLESS = call(TWICE, TWICE)
GROWING = call(fun("x", plus(ONE, call(X, X))), fun("x", plus(ONE, call(X, X))))


def countdown(n):
    """A tree that comes to 7 behind 4 * n + 4 deeds."""
    again = call(call(name("f"), name("f")), less(name("n"), ONE))
    body = fun("f", fun("n", choice(name("n"), again, num(7))))
    return let("f", body, call(call(name("f"), name("f")), num(n)))


def doubled(times, inmost):
    """A call within a call, so many times over: each holds twice what the one within it comes to."""
    tree = inmost
    for _ in range(times):
        tree = call(name("d"), tree)
    return let("d", fun("a", fun("b", choice(ZERO, call(name("a"), name("a")), name("b")))), tree)


def flat(tree):
    """All that stands in a tree, as it is read: to compare trees that are too deep for ==."""
    told = []
    waiting = [tree]
    while waiting:
        piece = waiting.pop()
        if isinstance(piece, tuple):
            told.append(len(piece))
            waiting.extend(piece[::-1])
        else:
            told.append((type(piece), piece))
    return told

# Ways to put a tree into one more node; how many nodes each adds.
WRAPS = {
    "fun": (lambda tree: ("fun", "x", tree), 1),
    "call, the function": (lambda tree: ("call", tree, ONE), 2),
    "call, the value": (lambda tree: ("call", ONE, tree), 2),
    "plus, the first": (lambda tree: ("plus", tree, ONE), 2),
    "plus, the second": (lambda tree: ("plus", ONE, tree), 2),
    "less, the first": (lambda tree: ("less", tree, ONE), 2),
    "less, the second": (lambda tree: ("less", ONE, tree), 2),
    "if, the choice": (lambda tree: ("if", tree, ONE, ONE), 3),
    "if, the first": (lambda tree: ("if", ONE, tree, ONE), 3),
    "if, the second": (lambda tree: ("if", ONE, ONE, tree), 3),
    "let, e": (lambda tree: ("let", "x", tree, ONE), 2),
    "let, the body": (lambda tree: ("let", "x", ONE, tree), 2),
}

# Those of them in which the tree is worked out, and comes first.
AHEAD = (
    "call, the function", "call, the value", "plus, the first", "plus, the second",
    "less, the first", "less, the second", "if, the choice", "let, e",
)


def nested(wrap, times, tree=ZERO):
    """The tree, wrapped so many times over."""
    for _ in range(times):
        tree = wrap(tree)
    return tree


def nested_to(wrap, adds, many):
    """A tree of exactly so many nodes, most of them within one another by one wrap."""
    times, left = divmod(many - 1, adds)
    return nested(WRAPS["fun"][0], left, nested(wrap, times))


def level(many):
    """A tree of exactly so many nodes, as flat as sums and functions make it."""
    if many == 1:
        return ONE
    if many == 2:
        return ("fun", "x", ONE)
    first = (many - 1) // 2
    return ("plus", level(first), level(many - 1 - first))


class Touchy:
    """An object that refuses to be asked anything."""

    def _refuse(self, *rest):
        raise RuntimeError("asked")

    __eq__ = __ne__ = __lt__ = __gt__ = __le__ = __ge__ = _refuse
    __hash__ = __len__ = __iter__ = __getitem__ = __contains__ = _refuse
    __bool__ = __repr__ = __str__ = __index__ = __int__ = _refuse

    @property
    def __class__(self):
        raise RuntimeError("asked")


class TouchyKind(type):
    """A kind that refuses to be compared."""

    def __eq__(self, other):
        raise RuntimeError("asked")

    __hash__ = type.__hash__


class OfTouchyKind(metaclass=TouchyKind):
    """An object whose kind refuses to be compared."""


class Pretender:
    """An object that says that it is of another kind."""

    def __init__(self, kind):
        self.kind = kind

    @property
    def __class__(self):
        return self.kind


class Yes:
    """An object that says that it equals everything."""

    def __eq__(self, other):
        return True

    def __hash__(self):
        return hash("num")


class Roll(tuple):
    """A tuple that doesn't tell what it holds."""

    def __len__(self):
        raise RuntimeError("asked")

    def __getitem__(self, at):
        raise RuntimeError("asked")

    def __iter__(self):
        raise RuntimeError("asked")


class Cord(str):
    """A text that doesn't tell what it holds."""

    def __len__(self):
        raise RuntimeError("asked")

    def __eq__(self, other):
        raise RuntimeError("asked")

    __hash__ = str.__hash__


class Sum(int):
    """A number that can't be compared."""

    def __lt__(self, other):
        raise RuntimeError("asked")

    __gt__ = __le__ = __ge__ = __abs__ = __lt__


def strangers():
    """Things that are no tuple, no text and no whole number, by what they are."""
    return {
        "None": None,
        "True": True,
        "False": False,
        "a float": 1.0,
        "not a number": float("nan"),
        "infinity": float("inf"),
        "a complex number": 1j,
        "bytes": b"num",
        "a bytearray": bytearray(b"num"),
        "a list": ["num", 1],
        "an empty list": [],
        "a dict": {"num": 1},
        "a set": {"num", 1},
        "a frozenset": frozenset(["num", 1]),
        "a range": range(2),
        "an iterator": iter(("num", 1)),
        "a function": strangers,
        "a class": tuple,
        "an object": object(),
        "an ellipsis": ...,
        "an error": ValueError("num"),
        "a touchy object": Touchy(),
        "an object of a touchy kind": OfTouchyKind(),
        "an object that equals everything": Yes(),
        "a pretended tuple": Pretender(tuple),
        "a pretended text": Pretender(str),
        "a pretended number": Pretender(int),
        "a tuple of another class": Roll(("num", 1)),
        "a text of another class": Cord("num"),
        "a number of another class": Sum(1),
    }
