"""Terms that several of the test files use, and a maker of many terms, the same ones each time."""

import random

HUGE = 10 ** 40
TOP = 10 ** 15

ONE = ("const", 1)
TWO = ("const", 2)
LOST = ("discard",)
COIN = ("range", 0, 1)
DIE = ("range", 1, 6)
X, Y = ("var", "x"), ("var", "y")
SELF = ("self",)
EVEN = ("even",)

NO_TERMS = [
    (), ("const",), ["const", 1], ("const", [1]), ("const", True), X, SELF, ("pick", ()), ("range", 1, 0), None, 5, True, "const",
    ("let", "x", ONE, Y), ("grow", 1, SELF, ONE), ("grow", 5, ONE, SELF), ("keep", EVEN, 0, ONE), ("tuple", (ONE,) * 65),
]


def steps(count):
    """A term without draws, with the value (..), that takes so many steps, 1 to 4096."""
    parts = []
    left = count - 1
    while left > 64:
        parts.append(("tuple", (ONE,) * 63))
        left -= 64
    if left > 0:
        parts.append(("tuple", (ONE,) * (left - 1)))
    return ("tuple", tuple(parts))


def chain(count, last):
    """A term whose run is so many terms within each other, the last one included; 86 to 104."""
    first = last
    for _ in range(count - 86):
        first = ("map", ("add", 0), first)
    term = SELF
    for _ in range(20):
        term = ("map", ("add", 0), term)
    return ("grow", 4, first, term)


class Maker:
    """Makes closed terms with few runs, the same ones each time."""

    TESTS = [EVEN, ("less", 2), ("size", 0), ("rising",), ("any", ("equals", 1)), ("not", ("equals", 0)), ("all", ("less", 1))]
    OPERATIONS = [("add", 1), ("mul", -2), ("mod", 2), ("sum",), ("size",), ("sort",), ("reverse",), ("flat",)]

    def __init__(self, seed):
        self.random = random.Random(seed)

    def below(self, number):
        return int(self.random.random() * number)

    def one_of(self, things):
        return things[self.below(len(things))]

    def leaf(self, names, grown):
        leaves = [("const", self.below(3)), ("const", (1, self.below(2))), COIN, ("range", -1, self.below(2)), LOST]
        leaves.extend([("shuffle", (2, 1)), ("tuple", ())])
        for name in names:
            leaves.extend([("var", name)] * 2 + [("upto", name)] * 2)
        if grown:
            leaves.extend([SELF] * 5)
        return self.one_of(leaves)

    def term(self, depth, names=(), grown=False):
        if depth == 0:
            return self.leaf(names, grown)
        part = self.term(depth - 1, names, grown)
        other = self.term(self.below(depth), names, grown)
        name = self.one_of("xy")
        bound = self.term(self.below(depth), names + (name,), grown)
        return self.one_of([
            ("pick", (part, other)), ("weigh", ((1 + self.below(2), other), (1, part))), ("tuple", (other, part)),
            ("list", 0, 1, part), ("list", 1, 2, part), ("map", self.one_of(self.OPERATIONS), part),
            ("keep", self.one_of(self.TESTS), 1 + self.below(2), part), ("let", name, other, part), ("let", name, part, bound),
            ("let", name, part, bound), ("grow", self.below(3), part, self.term(self.below(depth), names, True)),
            ("grow", 1 + self.below(2), other, self.term(depth - 1, names, True)),
        ])


def made_terms(count):
    maker = Maker(7)
    return [maker.term(1 + maker.below(4)) for _ in range(count)]
