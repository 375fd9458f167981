"""Drawn instructions, terms and questions for the tests of right instructions."""

from samples import CAUSES, PORTS, PRIMITIVES
from worldsalone.books import Book

ZERO, PC, NEXT = ("zero",), ("pc",), ("next",)
SPECIALS = ("mode", "table", "timer", "was")
KINDS = ("move", "prim", "prim", "load", "load", "store", "store", "goto", "get", "put", "in", "out", "trap", "if", "if")
RARE = ("in", "out", "trap")


class Drawer:
    """Draws instructions with few loads and stores."""

    def __init__(self, draw, operands):
        self.draw, self.operands, self.touches = draw, operands, 0

    def ref(self):
        """A ref."""
        if self.operands and self.draw.random() < 0.65:
            return ("op", self.draw.randrange(self.operands))
        return ("tmp", self.draw.randrange(3))

    def row(self, kind, depth):
        """A row of a kind."""
        draw = self.draw
        if kind == "prim":
            name, arity = draw.choice(PRIMITIVES)
            return (kind, self.ref(), name, tuple(self.ref() for _ in range(arity)))
        if kind == "if":
            return (kind, self.ref(), self.rows(draw.randrange(3), depth + 1), self.rows(draw.randrange(3), depth + 1))
        if kind in ("move", "load", "store"):
            return (kind, self.ref(), self.ref())
        told = {"get": (self.ref(), draw.choice(SPECIALS)), "put": (draw.choice(SPECIALS), self.ref()), "goto": (self.ref(),)}
        told.update({"in": (self.ref(), draw.choice(PORTS)), "out": (draw.choice(PORTS), self.ref())})
        told["trap"] = (draw.choice(CAUSES),)
        return (kind, *told[kind])

    def rows(self, many, depth=0):
        """Some rows, at most as many."""
        found = []
        for _ in range(many):
            kind = self.draw.choice(KINDS)
            if kind in RARE and self.draw.random() < 0.7 or (kind == "if" and depth == 2):
                continue
            if kind in ("load", "store"):
                if self.touches == 3:
                    continue
                self.touches += 1
            found.append(self.row(kind, depth))
        return tuple(found)


def drawn_rows(draw, operands):
    """User and system rows, which are often alike, or nearly alike."""
    user = Drawer(draw, operands).rows(draw.randrange(6))
    kind = draw.choice(("alike", "alike", "other", "nearly", "nearly"))
    if kind == "other":
        return (user, Drawer(draw, operands).rows(draw.randrange(6)))
    system = list(user)
    if kind == "nearly" and system:
        if draw.random() < 0.5:
            del system[draw.randrange(len(system))]
        else:
            system.insert(draw.randrange(len(system) + 1), ("move", *([Drawer(draw, operands).ref()] * 2)))
    return (user, tuple(system))


def drawn_book(draw, registers=(1, 2, 3)):
    """A book of one instruction, go."""
    operands = draw.choice((0, 1, 1, 2, 2, 3))
    return Book(draw.choice(registers), PRIMITIVES, CAUSES, PORTS, [("go", operands, *drawn_rows(draw, operands))])


def drawn_term(draw, operands, known, depth=1):
    """A term, which may occur."""
    kind = draw.choice(("zero", "pc", "next", "operand", "operand", "operand", "special", "box", "cell", "prim"))
    if kind == "prim" and depth:
        name, arity = draw.choice(PRIMITIVES)
        return (kind, name, tuple(drawn_term(draw, operands, known, depth - 1) for _ in range(arity)))
    if kind == "operand" and operands:
        return (kind, draw.randrange(operands))
    if kind in ("special", "box"):
        return (kind, draw.choice(SPECIALS))
    if kind == "cell":
        return (kind, draw.randrange(known))
    return (kind,) if kind in ("zero", "pc", "next") else ZERO


def drawn_question(draw, operands, known):
    """A question, which may not stand."""
    kind = draw.choice(("same", "equal", "equal", "equal", "allowed", "allowed", "cell", "cell"))
    term = drawn_term(draw, operands, known)
    if kind == "same":
        return (kind, draw.randrange(3), draw.randrange(3))
    if kind == "equal":
        return (kind, term, drawn_term(draw, operands, known))
    return (kind, term, draw.choice("rw")) if kind == "allowed" else (kind, term)
