"""Bare steps of boxes that are made of worlds, told once more from the words of S8.1 to S8.3, for the tests."""

from hosts import stock_of
from stocks import Model
from worldsalone.bare import box_of


def model_of(host):
    """A stock told once more, in the state in which the stock of a host is."""
    stock = stock_of(host)
    model = Model(stock.free() + stock.full())
    for w in stock.worlds():
        model.sizes[w] = stock.many(w)
        for frame in list(range(stock.many(w))) + [("copy", k) for k in stock.copies(w)]:
            model.words[(w, frame)] = stock.frame_words(w, frame)
    for g in stock.full():
        for seat in stock.lying(g):
            model.enter(seat, g)
    return model


def kinds_of(rows):
    """The set of the kinds of rows, those inside ifs included."""
    return {row[0] for row in rows} | {kind for row in rows if row[0] == "if" for kind in kinds_of(row[2] + row[3])}


class Prediction:
    """Where all frames of a host lie behind a bare step of the box that is made of a world."""

    def __init__(self, host, w, mapping, registers, pc):
        self.model, self.w, self.mapping = model_of(host), w, mapping
        self.meaning, self.machine = host.box().meaning(), host.machine(w)
        self.patched = set(host.copies(w).copied() + host.copies(w).closed())
        self.ways = "own"
        end = box_of(self.machine)
        self.end = end.bare(mapping, registers, pc)
        changed = [(frame, place, word) for frame, words in enumerate(end.frames()) for place, word in enumerate(words)
                   if word != self.machine.word(frame, place)]
        if not self.on_own_box(registers, pc):
            self.ways = "machine"
            for frame, place, word in changed:
                self.model.write((w, frame), place, word)
                self.model.drop([(w, ("copy", frame))])
                self.patched.discard(frame)
        for frame, place, word in changed:
            self.model.words[(w, frame)][place] = word

    def on_own_box(self, registers, pc):
        """Brings what the bare step asks for; whether the box of the host itself carries out the rows."""
        frame, rights = self.mapping.get(self.meaning.page(pc), (0, ""))
        code = self.meaning.code_of(self.machine.word(frame, self.meaning.place(pc))) if "x" in rights else None
        if code is not None and kinds_of(self.meaning.book().instruction(code[0])[2]) & {"get", "put", "in", "out"}:
            return False
        brought = []
        while True:
            granted = {page: (told[0], self.granted(*told)) for page, told in self.mapping.items()}
            end = box_of(self.machine).bare(granted, registers, pc)
            frame, rights = self.mapping.get(self.meaning.page(end[1]), (0, "")) if end[0] == "refused" else (0, "")
            if end[0] != "refused" or end[2] not in rights:
                return True
            if end[2] == "w" and not self.may_store(frame):
                return False
            kept = [self.model.at[(self.w, other)] for other in brought]
            if self.model.brought((self.w, frame), end[2] == "w", kept) is None:
                return False
            brought.append(frame)

    def may_store(self, frame):
        """Whether the mapping put together may have w for a frame."""
        return frame != self.machine.special("table") and frame not in self.patched

    def granted(self, frame, rights):
        """The rights at a frame as it lies now."""
        where = self.model.where((self.w, frame))[0]
        lacks = {"out": "rwx", "shared": "w", "in": ""}[where] + ("" if self.may_store(frame) else "w")
        return "".join(right for right in rights if right not in lacks)
