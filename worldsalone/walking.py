"""Walks: rows carried out on a draft with terms in the place of words."""

from worldsalone.carrying import carry_rows
from worldsalone.facts import NEXT, ZERO
from worldsalone.rowforms import TEMPORARIES

# What the terms of the specials begin with.
SPECIAL_TERMS = {"box": "box", "world": "special"}


class Unanswered(Exception):
    """A walk needs the answer of a question."""

    def __init__(self, question):
        self.question = question


class TermDraft:
    """What the rows of "box" or "world" leave so far, in terms, in all starts that follow a branch.

    All questions whether operands tell the same register were answered at the branch.
    """

    def __init__(self, facts, who):
        self._facts = facts
        self._who = who
        self._register_of = facts.registers_told()
        self._registers = {}
        self._temporaries = [ZERO] * TEMPORARIES
        self._cells = {}
        self._specials = {}
        self._taken = {}
        self._used_ports = False
        self._goal = NEXT

    def value(self, ref):
        """The term for which a ref stands."""
        word, number = ref
        if word == "tmp":
            return self._temporaries[number]
        told = self._register_of[number]
        return self._registers.get(told, ("operand", told))

    def assign(self, ref, value):
        """Gives what a ref stands for a term."""
        word, number = ref
        if word == "tmp":
            self._temporaries[number] = value
        else:
            self._registers[self._register_of[number]] = value

    def is_zero(self, ref):
        """Whether a ref stands for the word 0."""
        value = self.value(ref)
        told = self._facts.compared(value, ZERO)
        if told is None:
            raise Unanswered(("equal", value, ZERO))
        return told == "equal"

    def apply(self, name, values):
        """The term that a primitive gives for a tuple of terms."""
        return ("prim", name, values)

    def cell_at(self, address, right):
        """The number of the cell to which an address comes for a right, or None."""
        told = self._facts.right_told(address, right)
        if told is None:
            raise Unanswered(("allowed", address, right))
        if told == "no":
            return None
        cell = self._facts.cell_told(address)
        if cell is None:
            raise Unanswered(("cell", address))
        return cell

    def cell_word(self, cell):
        """The term in a cell."""
        return self._cells.get(cell, ("cell", cell))

    def fill_cell(self, cell, value):
        """Gives a cell a term."""
        self._cells[cell] = value

    def get_special(self, name):
        """The term of a special."""
        return self._specials.get(name, (SPECIAL_TERMS[self._who], name))

    def put_special(self, name, value):
        """Gives a special a term."""
        self._specials[name] = value

    def take_answer(self, port):
        """Takes the next answer of a port, and returns its term."""
        self._used_ports = True
        taken = self._taken.get(port, 0)
        self._taken[port] = taken + 1
        return ("answer", self._who, port, taken)

    def put_out(self, port, value):
        """Notes that something was put out."""
        self._used_ports = True

    def note_goal(self, address):
        """Notes where a goto leads."""
        self._goal = address

    def has_used_ports(self):
        """Whether an in or an out was carried out."""
        return self._used_ports

    def next_pc(self):
        """The term of the pc behind the instruction."""
        return self._goal

    def filled_cells(self):
        """The list of the cells in which something was stored."""
        return list(self._cells)

    def put_pairs(self):
        """The list of the pairs of what each special that was put has, and of what it had ahead of the instruction."""
        return [(self._specials[name], (SPECIAL_TERMS[self._who], name)) for name in self._specials]


class Walk:
    """A walk at a branch: its draft, and its outcome.

    The outcome is ("trap", cause), ("refused", address, right) or ("done",), or ("open", question)
    if it needs the answer of a question.
    """

    def __init__(self, draft, outcome):
        self.draft = draft
        self.outcome = outcome


def walked(facts, who):
    """The walk of "box" or "world" at a branch that is not impossible."""
    draft = TermDraft(facts, who)
    same = facts.unasked_same()
    if same is not None:
        return Walk(draft, ("open", same))
    try:
        end = carry_rows(draft, facts.setting().rows(who))
    except Unanswered as need:
        return Walk(draft, ("open", need.question))
    return Walk(draft, ("done",) if end is None else end)
