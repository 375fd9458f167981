"""Choices: what a host can be asked to do."""

from worldsalone.kinds import is_count, is_index
from worldsalone.machines import SPECIALS
from worldsalone.tables import frame_of

# What stands behind the first member of a choice.
CHOICE_FORMS = {
    "step": ("w",),
    "bring": ("w", "frame"),
    "out": ("w", "frame"),
    "share": (),
    "drop": ("w",),
    "special": ("name", "word"),
    "answer": ("w", "port", "word"),
    "arrive": ("w", "line"),
    "patch": ("w", "page"),
    "unpatch": ("w", "page"),
    "close": ("w",),
}
STRINGS = ("name", "port")


def is_member(name, thing):
    """Whether a thing has the kind of the member of a choice with this name."""
    return isinstance(thing, str) if name in STRINGS else is_count(thing)


def is_choice(value):
    """Whether a value has one of the forms of choices."""
    if not isinstance(value, tuple) or len(value) == 0 or not isinstance(value[0], str):
        return False
    if value[0] not in CHOICE_FORMS or len(value) != 1 + len(CHOICE_FORMS[value[0]]):
        return False
    form = CHOICE_FORMS[value[0]]
    return all([is_member(name, thing) for name, thing in zip(form, value[1:])])


def fits_box(meaning, name, thing):
    """Whether a member of a choice fits a box, for the names for which this can be told."""
    if name == "name":
        return thing != "mode" and thing in SPECIALS
    if name == "port":
        return thing in meaning.book().ports()
    if name == "page":
        return is_index(thing, meaning.pages())
    return meaning.is_word(thing) if name in ("word", "line") else True


def are_come(machine, pairs):
    """Whether no pair has a count above that of the machine."""
    return all([pair[0] <= machine.count() for pair in pairs])


def is_patched(machine, copies, page):
    """Whether the frame of a page has a copy or is closed, or None if the page has no frame."""
    frame = frame_of(machine.meaning(), machine.frames(), machine.special("table"), page)
    return None if frame is None else frame in copies.copied() + copies.closed()


def fits_world(host, choice):
    """Whether a choice for an open world, whose members fit the box, fits the world."""
    kind = choice[0]
    w = choice[1]
    machine = host.machine(w)
    if kind in ("bring", "out"):
        return is_index(choice[2], len(machine.frames()))
    if kind == "answer":
        return are_come(machine, machine.answers()[choice[2]])
    if kind == "arrive":
        return are_come(machine, machine.arrivals())
    if kind == "patch":
        return is_patched(machine, host.copies(w), choice[2]) is False
    if kind == "unpatch":
        return is_patched(machine, host.copies(w), choice[2]) is True
    return True


def can_do(host, choice):
    """Whether a choice can be made now."""
    if not is_choice(choice):
        return False
    form = CHOICE_FORMS[choice[0]]
    if "w" in form and choice[1] not in host.worlds():
        return False
    meaning = host.box().meaning()
    if not all([fits_box(meaning, name, thing) for name, thing in zip(form, choice[1:])]):
        return False
    return fits_world(host, choice) if "w" in form else True


def do_all(host, choices):
    """Makes the choices of a list, in order, and returns the list of what they tell."""
    return [host.do(choice) for choice in choices]
