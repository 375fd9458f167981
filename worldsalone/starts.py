"""Starts: small cases in which an instruction is carried out on a box and by a machine alone."""

from worldsalone.bare import Box
from worldsalone.kinds import is_tuple_of
from worldsalone.machines import Machine, are_port_words, are_specials, with_part
from worldsalone.meanings import Meaning
from worldsalone.steps import due, passed, step
from worldsalone.tables import frame_of, rights_at, translated


def fetched(machine):
    """The name of the instruction that a machine fetches, or None."""
    meaning = machine.meaning()
    table = machine.special("table")
    cell = translated(meaning, machine.frames(), table, machine.is_user(), machine.pc(), "x")
    code = None if cell is None else meaning.code_of(machine.word(cell[0], cell[1]))
    return None if code is None else code[0]


def is_machine_of(meaning, mode, thing):
    """Whether a thing is a machine of a meaning in a mode whose next step carries out an instruction."""
    if not isinstance(thing, Machine) or thing.meaning() != meaning:
        return False
    return thing.is_user() == (mode == "user") and due(thing) is None


def are_box_specials(meaning, thing):
    """Whether a thing can be the specials of the box of a start."""
    return are_specials(meaning, thing) and thing["mode"] == 0


def is_start(book, name, mode, thing):
    """Whether a thing is a start of an instruction and a mode."""
    if not is_tuple_of(thing, 4):
        return False
    meaning, machine, specials, answers = thing
    if not isinstance(meaning, Meaning) or meaning.book() != book:
        return False
    if not is_machine_of(meaning, mode, machine) or fetched(machine) != name:
        return False
    return are_box_specials(meaning, specials) and are_port_words(meaning, answers)


def mapping_of(machine):
    """The plain form of the mapping with all pages, frames and rights that the tables of a machine allow."""
    meaning = machine.meaning()
    frames = machine.frames()
    table = machine.special("table")
    found = {}
    for page in range(meaning.pages()):
        rights = rights_at(meaning, frames, table, machine.is_user(), page)
        if rights != "":
            found[page] = (frame_of(meaning, frames, table, page), rights)
    return found


def is_as_done(machine, box, end, behind):
    """Whether a machine's step that made it this behind it did no more than a bare step that is done with an end."""
    moved = with_part(machine, "frames", box.frames())
    return behind == passed(moved, end[1], end[2])


def judge_start(book, name, mode, start):
    """None if a start shows that an instruction is not right for a mode, otherwise "fit" or "right"."""
    book.instruction(name)
    if not is_start(book, name, mode, start):
        return "fit"
    meaning, machine, specials, answers = start
    box = Box(meaning, machine.frames(), specials, answers)
    untouched = Box(meaning, machine.frames(), specials, answers)
    end = box.bare(mapping_of(machine), machine.registers(), machine.pc())
    behind, event = step(machine)
    if end[0] == "trap":
        return "right"
    if end[0] == "refused":
        return "right" if event == ("trap", "page") and behind.special("fault") == end[1] else None
    if event != ("done",) or not is_as_done(machine, box, end, behind):
        return None
    is_box_as_before = box.specials() == untouched.specials() and box.answers() == untouched.answers()
    return "right" if is_box_as_before and box.outs() == untouched.outs() else None
