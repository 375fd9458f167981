"""Drafts: what an instruction has done so far, while nothing of it counts yet."""

from worldsalone.rowforms import TEMPORARIES
from worldsalone.tables import translated


class TableWays:
    """The translation of addresses by a machine's own tables, as they are when this is made."""

    def __init__(self, machine):
        self._meaning = machine.meaning()
        self._seen = machine.frames()
        self._table = machine.special("table")
        self._in_user_mode = machine.is_user()

    def cell_at(self, address, right):
        """The pair (frame, place) to which an address comes for a right, or None."""
        return translated(self._meaning, self._seen, self._table, self._in_user_mode, address, right)


class MappingWays:
    """The translation of addresses by a mapping in its plain form."""

    def __init__(self, meaning, mapping):
        self._meaning = meaning
        self._entries = {page: mapping[page] for page in mapping}

    def cell_at(self, address, right):
        """The pair (frame, place) to which an address comes for a right, or None."""
        frame, rights = self._entries.get(self._meaning.page(address), (None, ""))
        return (frame, self._meaning.place(address)) if right in rights else None


class Draft:
    """A machine's or box's parts as an instruction leaves them so far.

    base is the machine or box, ready gives for each port the words that in rows can take,
    and ways translates addresses, whatever the draft becomes.
    """

    def __init__(self, base, registers, ready, ways):
        self._meaning = base.meaning()
        self._registers = list(registers)
        self._frames = base.frames()
        self._specials = base.specials()
        self._outs = base.outs()
        self._ready = {port: list(ready[port]) for port in ready}
        self._taken = {port: 0 for port in ready}
        self._ways = ways
        self._temporaries = [0] * TEMPORARIES
        self._operands = ()
        self._goal = None

    def meaning(self):
        """The meaning."""
        return self._meaning

    def bind(self, operands):
        """Lets the operands stand for these registers."""
        self._operands = operands

    def value(self, ref):
        """The word for which a ref stands."""
        word, number = ref
        return self._temporaries[number] if word == "tmp" else self._registers[self._operands[number]]

    def assign(self, ref, value):
        """Gives what a ref stands for a word."""
        word, number = ref
        if word == "tmp":
            self._temporaries[number] = value
        else:
            self._registers[self._operands[number]] = value

    def is_zero(self, ref):
        """Whether a ref stands for the word 0."""
        return self.value(ref) == 0

    def apply(self, name, values):
        """The word that a primitive gives for a tuple of words."""
        return self._meaning.apply(name, values)

    def cell_at(self, address, right):
        """The pair (frame, place) to which an address comes for a right, or None."""
        return self._ways.cell_at(address, right)

    def cell_word(self, cell):
        """The word at a pair (frame, place)."""
        return self._frames[cell[0]][cell[1]]

    def fill_cell(self, cell, value):
        """Gives the place of a pair (frame, place) a word."""
        self._frames[cell[0]][cell[1]] = value

    def get_special(self, name):
        """The word of a special."""
        return self._specials[name]

    def put_special(self, name, value):
        """Gives a special a word."""
        self._specials[name] = value

    def take_answer(self, port):
        """Takes the first answer of a port that is left, and returns its word, or 0 if there is none."""
        taken = self._taken[port]
        if taken == len(self._ready[port]):
            return 0
        self._taken[port] = taken + 1
        return self._ready[port][taken]

    def put_out(self, port, value):
        """Puts a word at the end of the outs of a port."""
        self._outs[port].append(value)

    def note_goal(self, address):
        """Notes where a goto leads."""
        self._goal = address

    def pc_behind(self, pc):
        """The pc behind the instruction at a pc."""
        return self._meaning.next(pc) if self._goal is None else self._goal

    def left(self, answers):
        """What is left of answers, a dict from ports to lists, behind those that were taken."""
        return {port: answers[port][self._taken[port]:] for port in answers}

    def registers(self):
        """The list of the words of the registers."""
        return list(self._registers)

    def frames(self):
        """The list of the frames, each a list of words."""
        return [list(frame) for frame in self._frames]

    def specials(self):
        """The dict from the names of the specials to their words."""
        return {name: self._specials[name] for name in self._specials}

    def outs(self):
        """The dict from the ports to the lists of words that were put out there."""
        return {port: list(self._outs[port]) for port in self._outs}
