"""A book, meanings, machines and hosts for the tests of hosts."""

from samples import A, B, C, T0, T1, made, some_specials
from worldsalone.bare import Box
from worldsalone.books import Book
from worldsalone.errors import BadChoice
from worldsalone.host import Host
from worldsalone.mappings import first_untrue
from worldsalone.meanings import Meaning

HELP = (("trap", "help"),)


def both(*rows):
    """The user and system rows of an instruction that does the same in both modes."""
    return (rows, rows)


def system_only(*rows):
    """The user and system rows of an instruction that user mode is refused."""
    return (HELP, rows)


# Word, operands and rows of each instruction. All but bad and wild are right for both modes.
INSTRUCTIONS = {
    "nop": (16, (), *both()),
    "inc": (17, (0,), *both(("prim", A, "inc", (A,)))),
    "ld": (18, (0, 1), *both(("load", A, B))),
    "st": (19, (1, 0), *both(("store", A, B))),
    "three": (20, (1, 2, 3), *both(("load", T0, A), ("load", T1, B), ("store", C, T0))),
    "jmp": (21, (1,), *both(("goto", A))),
    "svc": (22, (), *both(("trap", "help"))),
    "table": (23, (0,), *system_only(("put", "table", A))),
    "mode": (24, (0,), *system_only(("put", "mode", A))),
    "enable": (25, (0,), *system_only(("put", "enabled", A))),
    "timer": (26, (0,), *system_only(("put", "timer", A))),
    "read": (27, (0,), *system_only(("in", A, "tty"))),
    "write": (28, (0,), *system_only(("out", "tty", A))),
    "bad": (29, (0,), *both(("get", A, "mode"))),
    "back": (30, (), *system_only(("get", T0, "was"), ("put", "mode", T0), ("get", T0, "back"), ("goto", T0))),
    "two": (31, (1, 2), *both(("load", T0, A), ("store", A, T1), ("store", A, T0), ("store", B, T0))),
    "late": (15, (0,), *both(("if", A, (("trap", "oops"),), ()))),
    "cross": (13, (1, 2), *both(("store", A, B), ("store", B, A))),
    "wild": (14, (0, 1), *both(("put", "mode", A), ("put", "table", B), ("out", "tty", A), ("in", A, "tty"))),
}
DOUBTED = ["bad", "wild"]
BOOK = Book(
    4,
    [("inc", 1)],
    ["help", "oops"],
    ["tty", "net"],
    [(name, len(told[1]), told[2], told[3]) for name, told in INSTRUCTIONS.items()],
)
TABLES = {"inc": {(word,): (word + 1) % 32 for word in range(32)}}
# Words 1 to 6 give all rights to frames 1 to 6; 0 is no entry, and 13 leads to no frame.
ENTRIES = {k: (k, "all", "rwx") for k in range(1, 7)}
ENTRIES.update({7: (1, "system", "rwx"), 8: (2, "all", "r"), 9: (3, "all", "rw"), 10: (0, "all", "rw")})
ENTRIES.update({11: (2, "all", "x"), 12: (0, "all", "rwx"), 13: (99, "all", "rwx")})
CODE = {told[0]: (name, told[1]) for name, told in INSTRUCTIONS.items()}
MEANING = Meaning(BOOK, 8, 4, TABLES, ENTRIES, CODE)


def without_stop_words():
    """The meaning in which each word has a code, and none is one that stops."""
    code = {word: ("nop", ()) for word in range(32)}
    for name, told in INSTRUCTIONS.items():
        if not told[2] or told[2][0][0] != "trap":
            code[told[0]] = (name, told[1])
    return Meaning(BOOK, 8, 4, TABLES, ENTRIES, code)


NO_STOP = without_stop_words()


def words_of(*names):
    """A frame with the words of these instructions, and zeros behind."""
    told = [INSTRUCTIONS[name][0] if isinstance(name, str) else name for name in names]
    return told + [0] * (8 - len(told))


def machine_of(*names, table=(1, 2, 3, 4), frames=(), registers=(0, 0, 0, 0), meaning=MEANING, pc=0, **told):
    """A machine with the table in frame 0, these instructions in frame 1, and five further frames, these ones first."""
    contents = [words_of(*table), words_of(*names)] + [list(frame) for frame in frames]
    contents += [[len(contents) + k] * 8 for k in range(7 - len(contents))]
    specials = some_specials(**told.pop("specials", {}))
    return made(meaning, frames=contents, registers=list(registers), pc=pc, specials=specials, **told)


def box_of_frames(many=12, meaning=MEANING, **specials):
    """A box with so many frames, whose words are all 31."""
    return Box(meaning, [[31] * 8 for _ in range(many)], some_specials(**specials), {"tty": [21, 22], "net": []})


def host_of(*machines, frames=range(12), doubted=DOUBTED, meaning=MEANING):
    """A host with these worlds."""
    host = Host(box_of_frames(meaning=meaning), list(frames), doubted)
    for machine in machines:
        host.open_world(machine)
    return host


class WornHost(Host):
    """A host whose worlds can be stepped only a few times."""

    left = 3

    def do(self, choice):
        """Refuses steps when they are used up."""
        self.left -= choice[0] == "step"
        if self.left < 0:
            raise BadChoice()
        return Host.do(self, choice)


def stepped(host, w, many=1):
    """What so many steps of a world tell."""
    return [host.do(("step", w)) for _ in range(many)]


def entries(host, w):
    """The dict from the pages of a world's mapping to their entries."""
    mapping = host.mapping(w)
    return {page: mapping.entry(page) for page in mapping.as_dict()}


def rights(host, w):
    """The dict from the pages of a world's mapping to their rights."""
    return {page: entry[1] for page, entry in entries(host, w).items()}


def stock_of(host):
    """The stock of a host, which its interface does not tell."""
    return host._hosting.stock()


def holders(host, w):
    """The pairs (box frame, alone) for the frames of a world, or for their copies, as first_untrue takes them."""
    stock = stock_of(host)
    copied = host.copies(w).copied()
    assert stock.copies(w) == copied
    places = {k: stock.where(w, ("copy", k) if k in copied else k) for k in range(stock.many(w))}
    return {k: (place[1], place[0] == "in") for k, place in places.items() if place != ("out",)}


def untrue(host):
    """The first open world whose mapping is not true, with the page, or None."""
    for w in host.worlds():
        copies = host.copies(w)
        page = first_untrue(host.mapping(w), host.machine(w), holders(host, w), copies.copied(), copies.closed())
        if page is not None:
            return (w, page)
    return None


def whole(host):
    """All that a host tells, to see whether it changed."""
    box = host.box()
    told = [host.worlds(), host.log(), box.frames(), box.specials(), box.answers(), box.outs()]
    for w in host.worlds():
        machine = host.machine(w)
        places = [host.where(w, k) for k in range(len(machine.frames()))]
        copies = host.copies(w)
        told.append((machine, host.counts(w), entries(host, w), copies.copied(), copies.closed(), places))
    return told
