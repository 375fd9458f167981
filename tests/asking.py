"""Terms, and questions with answers, as the tests of right instructions write them."""

ZERO, PC, NEXT = ("zero",), ("pc",), ("next",)
O0, O1, O2 = ("operand", 0), ("operand", 1), ("operand", 2)
MODES = ("user", "system")


def inc(term):
    """A term with a primitive of one argument."""
    return ("prim", "inc", (term,))


def plus(term, other):
    """A term with a primitive of two arguments."""
    return ("prim", "sum", (term, other))


def equal(term, other, answer="yes"):
    """A question, with an answer, whether two terms are equal."""
    return (("equal", term, other), answer)


def same(i, j, answer="yes"):
    """A question, with an answer, whether two operands tell the same register."""
    return (("same", i, j), answer)


def allowed(term, right, answer="yes"):
    """A question, with an answer, about a right."""
    return (("allowed", term, right), answer)


def cell(term, answer="further"):
    """A question, with an answer, about a cell."""
    return (("cell", term), answer)
