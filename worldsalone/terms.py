"""Terms, which stand for words of a start, and which of them may occur."""

from worldsalone.kinds import is_index, is_key_of, is_tuple_of
from worldsalone.machines import SPECIALS

# The number of members of a term, by its first one.
TERM_LENGTHS = {
    "zero": 1,
    "operand": 2,
    "special": 2,
    "box": 2,
    "pc": 1,
    "next": 1,
    "cell": 2,
    "answer": 4,
    "prim": 3,
}


def in_rows_of(rows, ports):
    """The dict from ports to the numbers of their in rows, those inside ifs included."""
    found = {port: 0 for port in ports}
    # A list of what is still to be looked at, so that deeply nested ifs need no deep calls.
    waiting = list(rows)
    while waiting:
        row = waiting.pop()
        if row[0] == "in":
            found[row[2]] += 1
        if row[0] == "if":
            waiting.extend(list(row[2] + row[3]))
    return found


def has_term_form(thing):
    """Whether a thing is a term as far as its first member and the number of its members tell."""
    if not isinstance(thing, tuple) or len(thing) == 0 or not isinstance(thing[0], str):
        return False
    return thing[0] in TERM_LENGTHS and len(thing) == TERM_LENGTHS[thing[0]]


class Setting:
    """An instruction of a book and a mode, as far as questions about it need them."""

    def __init__(self, book, name, mode):
        _, operands, user, system = book.instruction(name)
        ports = book.ports()
        self._book = book
        self._name = name
        self._operands = operands
        self._in_user_mode = mode == "user"
        self._rows = {"box": user, "world": user if mode == "user" else system}
        self._arities = {told: arity for told, arity in book.primitives()}
        self._in_rows = {who: in_rows_of(self._rows[who], ports) for who in ("box", "world")}

    def book(self):
        """The book."""
        return self._book

    def instruction(self):
        """The name of the instruction."""
        return self._name

    def is_user(self):
        """Whether the mode is "user"."""
        return self._in_user_mode

    def operands(self):
        """The number of operands of the instruction."""
        return self._operands

    def rows(self, who):
        """The rows of "box" or "world"."""
        return self._rows[who]

    def in_rows(self, who):
        """The dict from the ports to the numbers of their in rows in the rows of "box" or "world"."""
        return {port: self._in_rows[who][port] for port in self._in_rows[who]}

    def has_operand(self, thing):
        """Whether a thing is the number of an operand of the instruction."""
        return is_index(thing, self._operands)

    def may_occur(self, thing, known):
        """Whether a thing is a term that may occur where so many cells are known."""
        waiting = [thing]
        while waiting:
            term = waiting.pop()
            if not has_term_form(term) or not self._has_members(term, known):
                return False
            if term[0] == "prim":
                waiting.extend(list(term[2]))
        return True

    def _has_members(self, term, known):
        """Whether what a term names exists, apart from the arguments of a primitive."""
        kind = term[0]
        if kind == "operand":
            return self.has_operand(term[1])
        if kind in ("special", "box"):
            return is_key_of(term[1], SPECIALS)
        if kind == "cell":
            return is_index(term[1], known)
        if kind == "answer":
            return self._has_answer(term)
        if kind == "prim":
            return is_key_of(term[1], self._arities) and is_tuple_of(term[2], self._arities[term[1]])
        return True

    def _has_answer(self, term):
        """Whether there is an in row for a term ("answer", who, port, k)."""
        _, who, port, k = term
        if not is_key_of(who, self._in_rows) or not is_key_of(port, self._in_rows[who]):
            return False
        return is_index(k, self._in_rows[who][port])
