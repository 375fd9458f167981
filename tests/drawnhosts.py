"""Drawn machines and choices for the tests of hosts."""

from hosts import BOOK, CODE, DOUBTED, ENTRIES, NO_STOP, TABLES
from samples import some_specials
from worldsalone.machines import Machine
from worldsalone.meanings import Meaning

# The same meanings without the words of the instructions that are not right.
RIGHT = Meaning(BOOK, 8, 4, TABLES, ENTRIES, {word: code for word, code in CODE.items() if code[0] not in DOUBTED})
NO_STOP_CODE = {word: NO_STOP.code_of(word) for word in range(32)}
RIGHT_NO_STOP = Meaning(BOOK, 8, 4, TABLES, ENTRIES, {
    word: ("nop", ()) if code[0] in DOUBTED else code for word, code in NO_STOP_CODE.items()})
CODES = [word for word in range(13, 32) if word not in (14, 29)]


def drawn_machine(draw, meaning):
    """A machine whose pages have frames, mostly, and whose frames have code, mostly."""
    frames = []
    for k in range(7):
        if k in (0, 6):
            frames.append([draw.choice((1, 2, 3, 4, 5, 6, 7, 8, 9, 10, 11, 12, draw.randrange(32))) for _ in range(8)])
        else:
            frames.append(draw.choice(([draw.choice(CODES) for _ in range(8)], [19, 17, 20, 21, 18, 31, 13, 22], [0] * 8)))
    specials = {name: draw.randrange(32) for name in ("handler", "back", "was", "cause", "fault")}
    specials.update(mode=draw.choice((0, 0, 1, 5)), table=draw.choice((0, 0, 0, 6)), enabled=draw.choice((0, 1)))
    specials["timer"] = draw.choice((0, 0, 3, 9))
    count = draw.choice((0, 7))
    return Machine(meaning, frames, [draw.randrange(32) for _ in range(4)], draw.choice((0, 8, draw.randrange(32))),
                   some_specials(**specials), draw.random() < 0.2, (3,) if draw.random() < 0.2 else (),
                   {"tty": [1], "net": []}, {"tty": [(0, 4)], "net": []}, [(count + 2, 9)] if draw.random() < 0.3 else [], count)


def drawn_choice(draw, host):
    """A choice that may not be one that can be made."""
    w = draw.choice(host.worlds() + [0, 1]) if draw.random() < 0.95 else 7
    kind = draw.choice(("step",) * 22 + ("bring", "out", "share", "share", "drop", "special", "answer", "arrive", "patch", "patch", "unpatch"))
    if kind in ("step", "drop"):
        return (kind, w)
    if kind in ("bring", "out"):
        return (kind, w, draw.randrange(8))
    if kind in ("patch", "unpatch"):
        return (kind, w, draw.randrange(5))
    if kind == "special":
        return (kind, draw.choice(("table", "mode", "was")), draw.randrange(32))
    if kind == "answer":
        return (kind, w, draw.choice(("tty", "net")), draw.randrange(33))
    return (kind, w, draw.randrange(32)) if kind == "arrive" else (kind,)
