"""Careful choices: they patch each frame with doubtful words ahead of the first step that fetches from it."""

from worldsalone.deciding import is_right
from worldsalone.tables import translated


def sound_list(book):
    """The list of the names of the instructions that are not right for one of the modes."""
    names = [instruction[0] for instruction in book.instructions()]
    return [name for name in names if not is_right(book, name, "user") or not is_right(book, name, "system")]


def careful_choice(host, w):
    """The careful choice for a world."""
    machine = host.machine(w)
    meaning = machine.meaning()
    frames = machine.frames()
    table = machine.special("table")
    cell = translated(meaning, frames, table, machine.is_user(), machine.pc(), "x")
    if cell is None or host.copies(w).is_covered(cell[0], frames[cell[0]]):
        return ("step", w)
    return ("patch", w, meaning.page(machine.pc()))


def careful_step(host, w):
    """Makes careful choices until one of them is a step, and returns the list of the choices made."""
    made = []
    while made == [] or made[-1][0] != "step":
        choice = careful_choice(host, w)
        host.do(choice)
        made.append(choice)
    return made
