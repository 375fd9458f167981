"""Branches, walks and verdicts told once more, from the words of S6.4 to S6.6 alone, for the tests.

Nothing is kept between questions: each one goes through the whole branch and all terms again.
"""

ZERO, PC, NEXT = ("zero",), ("pc",), ("next",)


def subterms(term):
    """A term and all terms inside it."""
    found = [term]
    if term[0] == "prim":
        for arg in term[2]:
            found.extend(subterms(arg))
    return found


class Open(Exception):
    """A walk needs a question."""


class Branch:
    """A branch of an instruction and a mode."""

    def __init__(self, book, name, mode, pairs):
        self.book, self.mode, self.pairs = book, mode, list(pairs)
        _, self.operands, self.user, self.system = book.instruction(name)
        self.terms = []
        self.group = {}
        self.told = [(("box", "mode"), ZERO)]
        self.apart = [(PC, NEXT)]
        if mode == "user":
            self.told.append((("special", "mode"), ZERO))
        else:
            self.apart.append((("special", "mode"), ZERO))
        self.reached = [(PC, 0)]
        self.known = 1
        for question, answer in self.pairs:
            if question[0] == "same" and answer == "yes":
                self.told.append((("operand", question[1]), ("operand", question[2])))
            if question[0] == "equal":
                (self.told if answer == "yes" else self.apart).append(question[1:])
            if question[0] == "cell":
                self.reached.append((question[1], self.known if answer == "further" else answer))
                self.known += answer == "further"
        self.meet([term for pair in self.told + self.apart for term in pair] + [term for term, _ in self.reached])
        self.meet([question[1] for question, _ in self.pairs if question[0] == "allowed"])

    def meet(self, terms):
        """Puts terms into the groups of equal ones, which are found anew if one is new."""
        new = [part for term in terms for part in subterms(term) if part not in self.group]
        if not new and self.group:
            return
        self.terms = list(dict.fromkeys(self.terms + new))
        self.group = {term: k for k, term in enumerate(self.terms)}
        while True:
            pairs = list(self.told)
            prims = [term for term in self.terms if term[0] == "prim"]
            for one in prims:
                for other in prims:
                    if one[1] == other[1] and all(self.group[a] == self.group[b] for a, b in zip(one[2], other[2])):
                        pairs.append((one, other))
            pairs = [(self.group[a], self.group[b]) for a, b in pairs if self.group[a] != self.group[b]]
            if not pairs:
                return
            kept, gone = pairs[0]
            self.group = {term: kept if told == gone else told for term, told in self.group.items()}

    def equal(self, one, other):
        """Whether two terms are equal."""
        self.meet([one, other])
        return self.group[one] == self.group[other]

    def unlike(self, one, other):
        """Whether two terms are unlike."""
        pairs = self.apart + [(b, a) for a, b in self.apart]
        return any(self.equal(one, a) and self.equal(other, b) for a, b in pairs)

    def allowed(self, term, right):
        """The set of the answers about a right of equal terms."""
        asked = [(question[1], answer) for question, answer in self.pairs if question[0] == "allowed" and question[2] == right]
        return {answer for other, answer in asked if self.equal(term, other)}

    def cells(self, term):
        """The set of the cells to which equal terms come."""
        return {cell for other, cell in self.reached if self.equal(term, other)}

    def same_fit(self):
        """Whether registers can be found for the operands as answers say."""
        ways = [()]
        for _ in range(self.operands):
            ways = [way + (k,) for way in ways for k in range(self.book.registers())]
        asked = [(question[1:], answer == "yes") for question, answer in self.pairs if question[0] == "same"]
        return any(all((way[i] == way[j]) == told for (i, j), told in asked) for way in ways)

    def impossible(self):
        """Whether the branch is impossible."""
        if any(self.equal(one, other) for one, other in self.apart) or not self.same_fit():
            return True
        for term in list(self.terms):
            if len(self.cells(term)) > 1 or any(len(self.allowed(term, right)) > 1 for right in "rw"):
                return True
        if self.cells(PC) & self.cells(NEXT):
            return True
        apart = any(self.allowed(PC, right) | self.allowed(NEXT, right) == {"yes", "no"} for right in "rw")
        return apart and (self.equal(ZERO, PC) or 0 in self.cells(ZERO))

    def walk(self, who):
        """The end of a walk, and what it left: registers, cells, specials, whether it used ports, and the next pc."""
        for j in range(self.operands):
            for i in range(j):
                if all(question != ("same", i, j) for question, _ in self.pairs):
                    raise Open(("same", i, j))
        word = "box" if who == "box" else "special"
        rows = self.user if who == "box" or self.mode == "user" else self.system
        alike = [
            [j for j in range(self.operands) if i == j or (("same", min(i, j), max(i, j)), "yes") in self.pairs]
            for i in range(self.operands)
        ]
        values = {("op", i): ("operand", i) for i in range(self.operands)}
        values.update({("tmp", j): ZERO for j in range(4)})
        left = {"cells": {}, "specials": {}, "ports": False, "pc": NEXT, "values": values}
        taken = {}
        rows = list(rows)
        while rows:
            row = rows.pop(0)
            kind = row[0]
            given = None
            if kind == "trap":
                return ("trap",), left
            if kind == "if":
                value = values[row[1]]
                if not self.equal(value, ZERO) and not self.unlike(value, ZERO):
                    raise Open(("equal", value, ZERO))
                rows = list(row[3] if self.equal(value, ZERO) else row[2]) + rows
            if kind in ("load", "store"):
                address, right = values[row[2] if kind == "load" else row[1]], "r" if kind == "load" else "w"
                if not self.allowed(address, right):
                    raise Open(("allowed", address, right))
                if "no" in self.allowed(address, right):
                    return ("refused", address), left
                if not self.cells(address):
                    raise Open(("cell", address))
                (cell,) = self.cells(address)
                if kind == "store":
                    left["cells"][cell] = values[row[2]]
                else:
                    given = left["cells"].get(cell, ("cell", cell))
            if kind == "move":
                given = values[row[2]]
            if kind == "prim":
                given = ("prim", row[2], tuple(values[ref] for ref in row[3]))
            if kind == "goto":
                left["pc"] = values[row[1]]
            if kind == "get":
                given = left["specials"].get(row[2], (word, row[2]))
            if kind == "put":
                left["specials"][row[1]] = values[row[2]]
            if kind == "in":
                k = taken.get(row[2], 0)
                taken[row[2]] = k + 1
                given = ("answer", who, row[2], k)
            left["ports"] = left["ports"] or kind in ("in", "out")
            if given is not None:
                values[row[1]] = given
                if row[1][0] == "op":
                    values.update({("op", j): given for j in alike[row[1][1]]})
        return ("done",), left

    def must_be_equal(self, box, world):
        """The pairs of terms that must be equal behind two walks that are done."""
        pairs = [(box["values"][("op", i)], world["values"][("op", i)]) for i in range(self.operands)]
        for cell in set(box["cells"]) | set(world["cells"]):
            pairs.append((box["cells"].get(cell, ("cell", cell)), world["cells"].get(cell, ("cell", cell))))
        pairs.append((box["pc"], world["pc"]))
        pairs += [(told, ("special", name)) for name, told in world["specials"].items()]
        return pairs + [(told, ("box", name)) for name, told in box["specials"].items()]

    def judged(self):
        """The verdict, with a question that is needed if it is "open"."""
        if self.impossible():
            return ("impossible", None)
        try:
            box_end, box = self.walk("box")
            if box_end == ("trap",):
                return ("right", None)
            world_end, world = self.walk("world")
        except Open as need:
            return ("open", need.args[0])
        both_done = box_end == world_end == ("done",)
        is_used = box["ports"] or world["ports"]
        pairs = []
        if both_done:
            pairs = self.must_be_equal(box, world)
        elif box_end[0] == world_end[0] == "refused":
            pairs = [(box_end[1], world_end[1])]
        if box_end[0] == world_end[0] and not (both_done and is_used) and all(self.equal(*pair) for pair in pairs):
            return ("right", None)
        if box_end[0] != world_end[0] or (both_done and is_used) or any(self.unlike(*pair) for pair in pairs):
            return ("wrong", None)
        return ("open", [("equal", *pair) for pair in pairs if not self.equal(*pair)][0])


class Follower:
    """A start, with the words of terms in it, and the answers that it follows."""

    def __init__(self, mode, start):
        self.meaning, self.machine, self.box, self.given = start
        self.table = self.machine.special("table")
        self.cells = [self.place(self.machine.pc(), "x")]
        self.operands = self.meaning.code_of(self.machine.word(*self.cells[0]))[1]

    def place(self, address, right):
        """The place to which an address comes, or None."""
        page, place = divmod(address, self.meaning.places())
        entry = self.meaning.entry(self.machine.word(self.table, page))
        return (entry[0], place) if entry is not None and right in entry[2] else None

    def word(self, term):
        """The word for which a term stands."""
        kind = term[0]
        pc = self.machine.pc()
        told = {"zero": 0, "pc": pc, "next": self.meaning.next(pc)}
        if kind in told:
            return told[kind]
        if kind == "operand":
            return self.machine.registers()[self.operands[term[1]]]
        if kind == "special":
            return self.machine.special(term[1])
        if kind == "box":
            return self.box[term[1]]
        if kind == "cell":
            return self.machine.word(*self.cells[term[1]])
        if kind == "prim":
            return self.meaning.apply(term[1], tuple(self.word(arg) for arg in term[2]))
        _, who, port, k = term
        ready = [word for count, word in self.machine.answers()[port] if count <= self.machine.count()]
        words = self.given[port] if who == "box" else ready
        return words[k] if k < len(words) else 0

    def answer(self, question):
        """The answer of a question; a further cell is known behind it."""
        kind = question[0]
        if kind == "cell":
            address = self.word(question[1])
            place = self.place(address, "r") or self.place(address, "w")
            if place in self.cells:
                return self.cells.index(place)
            self.cells.append(place)
            return "further"
        if kind == "same":
            is_so = self.operands[question[1]] == self.operands[question[2]]
        elif kind == "equal":
            is_so = self.word(question[1]) == self.word(question[2])
        else:
            is_so = self.place(self.word(question[1]), question[2]) is not None
        return "yes" if is_so else "no"
