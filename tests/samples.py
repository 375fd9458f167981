"""Books, meanings and machines for the tests."""

from worldsalone.books import Book
from worldsalone.machines import Machine, parts_of
from worldsalone.meanings import Meaning

NAMES = ("mode", "table", "handler", "enabled", "timer", "cause", "back", "was", "fault")
A, B, C = ("op", 0), ("op", 1), ("op", 2)
T0, T1, T2, T3 = ("tmp", 0), ("tmp", 1), ("tmp", 2), ("tmp", 3)

# Things of all kinds that are neither numbers of something, nor names, nor tuples that say anything.
ODD = (None, True, False, -1, "", "x y", [], [1], (), (1,), {}, {1: 2}, Book(1, [], [], [], []))

PRIMITIVES = [("one", 0), ("inc", 1), ("sum", 2)]
CAUSES = ["oops", "help"]
PORTS = ["tty", "net"]
TABLES = {
    "one": {(): 1},
    "inc": {(word,): (word + 1) % 16 for word in range(16)},
    "sum": {(word, other): (word + other) % 16 for word in range(16) for other in range(16)},
}
ENTRIES = {
    1: (1, "all", "rwx"),
    2: (2, "all", "r"),
    3: (2, "system", "rw"),
    4: (9, "all", "rwx"),
    5: (1, "system", "x"),
    6: (2, "all", "rw"),
    7: (2, "all", ""),
}


def one_book(user, system=None, operands=3):
    """A book in which the rows of the instruction go are these ones."""
    system_rows = user if system is None else system
    return Book(3, PRIMITIVES, CAUSES, PORTS, [("go", operands, user, system_rows), ("nop", 0, (), ())])


def one_meaning(book, registers=(0, 1, 2)):
    """A meaning with 4 places and 4 pages, in which word 8 is the instruction go, and word 9 is nop."""
    return Meaning(book, 4, 4, TABLES, ENTRIES, {8: ("go", registers), 9: ("nop", ())})


def some_frames():
    """Frame 0 has the table: page 0 is frame 1, with go at address 0; pages 1 and 2 are frame 2; 3 is nothing."""
    return [[1, 6, 3, 4], [8, 9, 0, 8], [10, 11, 12, 13]]


def some_specials(**told):
    """The specials, 0 where nothing is told."""
    return {name: told.get(name, 0) for name in NAMES}


def some_parts(**told):
    """The parts of a machine, those that are told and the usual ones."""
    parts = {
        "frames": some_frames(),
        "registers": [0, 0, 0],
        "pc": 0,
        "specials": some_specials(),
        "is_out": False,
        "lines": (),
        "outs": {"tty": [], "net": []},
        "answers": {"tty": [], "net": []},
        "arrivals": [],
        "count": 0,
    }
    assert not set(told) - set(parts), told
    parts.update(told)
    return parts


def made(meaning, **told):
    """A machine of a meaning with the parts that are told."""
    return Machine(meaning, *some_parts(**told).values())


def going(user, system=None, operands=3, code=(0, 1, 2), **told):
    """A machine whose next instruction has these rows."""
    return made(one_meaning(one_book(user, system, operands), code), **told)


def with_changes(machine, **told):
    """A machine that differs in these parts alone; specials are those that differ."""
    parts = parts_of(machine)
    assert not set(told) - set(parts), told
    specials = dict(parts["specials"], **told.pop("specials", {}))
    parts.update(told)
    parts["specials"] = specials
    return Machine(machine.meaning(), *parts.values())


def mutable_parts(thing):
    """The ids of the lists and dicts in a thing, that itself included, each as often as it stands there."""
    if isinstance(thing, dict):
        return [id(thing)] + [found for part in thing.values() for found in mutable_parts(part)]
    if isinstance(thing, list):
        return [id(thing)] + [found for part in thing for found in mutable_parts(part)]
    if isinstance(thing, tuple):
        return [found for part in thing for found in mutable_parts(part)]
    return []


def assert_new(case, call):
    """Checks that a call returns equal things each time, without any list or dict in common or twice."""
    first, second = call(), call()
    case.assertEqual(first, second)
    found = mutable_parts(first) + mutable_parts(second)
    case.assertTrue(found)
    case.assertEqual(len(found), len(set(found)))


def spoil(thing):
    """Changes every list and dict of a thing."""
    if isinstance(thing, (list, tuple)):
        for part in thing:
            spoil(part)
    if isinstance(thing, dict):
        for part in thing.values():
            spoil(part)
        thing["spoiled"] = 99
    if isinstance(thing, list):
        thing.append("spoiled")
