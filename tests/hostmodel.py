"""A host told once more, from the words of S3 to S5 and S7 alone, for the tests.

It runs no box: the words that a bare step reads are those of the frames that its mapping leads to.
"""

from stocks import Model
from worldsalone.machines import Machine, answered, arrived
from worldsalone.steps import due, emulated, passed, trapped


class World:
    """What is kept of one world."""

    def __init__(self, machine):
        self.machine = machine
        self.entries = {}
        self.patched = set()
        self.counts = [0, 0, 0]


class ModelHost:
    """Worlds over a meaning, in frames of a box."""

    def __init__(self, meaning, frames, doubted):
        self.meaning, self.doubted = meaning, doubted
        self.stock = Model(frames)
        self.worlds = {}
        stops = [word for word in range(meaning.words()) if self.stops(word)]
        self.stop = stops[0] if stops else None

    def stops(self, word):
        """Whether a word is a stop word."""
        code = self.meaning.code_of(word)
        user = () if code is None else self.meaning.book().instruction(code[0])[2]
        return code is None or (user != () and user[0][0] == "trap")

    def open_world(self, machine):
        """Opens a world."""
        w = self.stock.open_world(machine.frames())
        self.worlds[w] = World(machine)
        return w

    def machine(self, w):
        """The machine of a world."""
        kept = self.worlds[w].machine
        frames = [self.stock.words[(w, k)] for k in range(self.stock.sizes[w])]
        return Machine(self.meaning, frames, kept.registers(), kept.pc(), kept.specials(), kept.is_out(), kept.lines(),
                       kept.outs(), kept.answers(), kept.arrivals(), kept.count())

    def copied(self, w):
        """The frames of a world that have a copy."""
        return self.worlds[w].patched if self.stop is not None else set()

    def page_entry(self, w, page):
        """The tuple (frame, rights that the world allows, rights of the limit) of a page, or None if it has no frame."""
        world = self.worlds[w]
        table = world.machine.special("table")
        if table >= self.stock.sizes[w]:
            return None
        entry = self.meaning.entry(self.stock.words[(w, table)][page])
        if entry is None or entry[0] >= self.stock.sizes[w]:
            return None
        frame, who, rights = entry
        allowed = rights if who == "all" or world.machine.special("mode") != 0 else ""
        limit = {"r", "w", "x"}
        if frame == table:
            limit.discard("w")
        if frame in world.patched:
            limit -= {"x"} if self.stop is None else {"r", "w"}
        return (frame, allowed, limit)

    def fall(self, w, falls):
        """Lets the entries of a world fall for which a question (page, entry) is true."""
        entries = self.worlds[w].entries
        self.worlds[w].entries = {page: entry for page, entry in entries.items() if not falls(page, entry)}

    def moved(self, moves):
        """Lets entries fall by moves."""
        for w, _, g in moves:
            if w in self.worlds:
                self.fall(w, lambda page, entry, left=g: entry[0] == left)

    def take(self, w, machine):
        """Takes over all but the frames of a machine."""
        kept = self.worlds[w].machine
        self.worlds[w].machine = machine
        if kept.special("table") != machine.special("table") or (kept.special("mode") == 0) != (machine.special("mode") == 0):
            self.worlds[w].entries = {}

    def end_copy(self, w, frame):
        """Ends a copy or a closing."""
        self.worlds[w].patched.discard(frame)
        self.moved(self.stock.drop([(w, ("copy", frame))]))

    def wrote(self, w, frame, place):
        """What follows when a cell has another word."""
        self.fall(w, lambda page, entry: entry[2] == (frame, place))
        self.end_copy(w, frame)

    def trial(self, w, machine):
        """The end of a bare step by the entries of a world, with what it stores in place of the registers."""
        entries, size = self.worlds[w].entries, self.meaning.places()
        stored = {}

        def reach(address, right):
            """The frame or copy and the place to which an address comes, or None."""
            g, rights, _ = entries.get(address // size, (None, "", None))
            return (g, address % size) if right in rights else None

        def word_at(place):
            """The word at a place of a frame of the box."""
            return stored.get(place, self.stock.words[self.stock.lying(place[0])[0]][place[1]])

        pc, registers, temporaries = machine.pc(), machine.registers(), [0] * 4
        if reach(pc, "x") is None:
            return ("refused", pc, "x")
        code = self.meaning.code_of(word_at(reach(pc, "x")))
        if code is None:
            return ("code",)
        places = {"op": (registers, code[1]), "tmp": (temporaries, range(4))}

        def value(ref):
            """The word of a ref."""
            return places[ref[0]][0][places[ref[0]][1][ref[1]]]

        def assign(ref, word):
            """Gives a ref a word."""
            places[ref[0]][0][places[ref[0]][1][ref[1]]] = word

        goal = (pc + 1) % self.meaning.words()
        rows = list(self.meaning.book().instruction(code[0])[2])
        while rows:
            row = rows.pop(0)
            if row[0] == "trap":
                return ("trap",)
            if row[0] == "if":
                rows = list(row[2] if value(row[1]) else row[3]) + rows
            elif row[0] == "goto":
                goal = value(row[1])
            elif row[0] == "load":
                if reach(value(row[2]), "r") is None:
                    return ("refused", value(row[2]), "r")
                assign(row[1], word_at(reach(value(row[2]), "r")))
            elif row[0] == "store":
                if reach(value(row[1]), "w") is None:
                    return ("refused", value(row[1]), "w")
                stored[reach(value(row[1]), "w")] = value(row[2])
            elif row[0] == "prim":
                assign(row[1], self.meaning.apply(row[2], tuple(value(ref) for ref in row[3])))
            else:
                assert row[0] == "move", row
                assign(row[1], value(row[2]))
        return ("done", registers, goal, stored)

    def emulate(self, w, machine):
        """Makes the instruction on the machine."""
        behind, event = emulated(machine)
        before, later = machine.frames(), behind.frames()
        for frame, words in enumerate(later):
            for place, word in enumerate(words):
                if word != before[frame][place]:
                    self.moved(self.stock.write((w, frame), place, word))
                    self.wrote(w, frame, place)
        self.worlds[w].counts[2] += 1
        self.take(w, behind)
        return event

    def step(self, w):
        """A step of a world."""
        self.worlds[w].counts[0] += 1
        machine = self.machine(w)
        cause = due(machine)
        if cause is not None:
            self.take(w, trapped(machine, cause, None))
            return ("trap", cause)
        filled = []
        while True:
            end = self.trial(w, machine)
            if end[0] == "done":
                self.finish(w, machine, end)
                return ("done",)
            if end[0] != "refused":
                return self.emulate(w, machine)
            _, address, right = end
            page = address // self.meaning.places()
            told = self.page_entry(w, page)
            if told is None or right not in told[1]:
                self.take(w, trapped(machine, "page", address))
                return ("trap", "page")
            if right not in told[2]:
                return self.emulate(w, machine)
            self.fill(w, page, told[0], right, filled)

    def fill(self, w, page, frame, right, filled):
        """A fill."""
        seat = (w, ("copy", frame) if frame in self.copied(w) else frame)
        kept = [self.stock.at[other] for other in filled if other != seat]
        g, moves = self.stock.brought(seat, right == "w", kept)
        self.moved(moves)
        world = self.worlds[w]
        cell = (world.machine.special("table"), page)
        had = world.entries.get(page, (g, "", cell))
        assert had[0] == g and had[2] == cell
        world.entries[page] = (g, "".join(letter for letter in "rwx" if letter in had[1] + right), cell)
        world.counts[1] += 1
        filled.append(seat)

    def finish(self, w, machine, end):
        """Ends a step whose bare step was done."""
        _, registers, goal, stored = end
        changed = []
        for (g, place), word in stored.items():
            seat, = self.stock.lying(g)
            if self.stock.words[seat][place] != word:
                changed.append((seat[1], place))
            self.stock.words[seat][place] = word
        for frame, place in sorted(changed):
            self.wrote(w, frame, place)
        self.take(w, passed(machine, registers, goal))

    def share(self):
        """Shares alike frames."""
        freed, joined = self.stock.share_alike()
        for w in self.worlds:
            self.fall(w, lambda page, entry: entry[0] in freed or (entry[0] in joined and "w" in entry[1]))
        return len(freed)

    def patch(self, w, page):
        """Patches the frame of a page."""
        frame = self.page_entry(w, page)[0]
        self.worlds[w].patched.add(frame)
        if self.stop is not None:
            codes = [(word, self.meaning.code_of(word)) for word in self.stock.words[(w, frame)]]
            words = [self.stop if code and code[0] in self.doubted and not self.stops(word) else word for word, code in codes]
            self.stock.make_copy(w, frame, words)
        at = self.stock.at.get((w, frame))
        self.fall(w, lambda page, entry: entry[0] == at)

    def do(self, choice):
        """Makes a choice that can be made."""
        kind, w = choice[0], choice[1] if len(choice) > 1 else None
        if kind == "step":
            return self.step(w)
        if kind == "bring":
            if self.stock.where((w, choice[2])) == ("out",):
                self.moved(self.stock.brought((w, choice[2]), False, [])[1])
            return self.stock.where((w, choice[2]))
        if kind == "out":
            self.moved(self.stock.put_out((w, choice[2])))
            return ("out",)
        if kind == "share":
            return self.share()
        if kind == "drop":
            self.worlds[w].entries = {}
        if kind == "answer":
            self.take(w, answered(self.machine(w), choice[2], choice[3]))
        if kind == "arrive":
            self.take(w, arrived(self.machine(w), choice[2]))
        if kind == "patch":
            self.patch(w, choice[2])
        if kind == "unpatch":
            self.end_copy(w, self.page_entry(w, choice[2])[0])
        if kind == "close":
            self.stock.close_world(w)
            del self.worlds[w]
        return None
