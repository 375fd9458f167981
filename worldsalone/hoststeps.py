"""A step of a world, as its host makes it on the box."""

from worldsalone.mappings import wanted
from worldsalone.steps import due, emulated, passed, trapped


def changed_words(frames, later):
    """The list of the tuples (frame, place, word) of the later words that differ, ascending."""
    return [
        (frame, place, word)
        for frame, words in enumerate(later)
        for place, word in enumerate(words)
        if word != frames[frame][place]
    ]


def end_step(hosting, w, machine, event):
    """Ends a step that makes this of all parts of a world's machine but the frames; returns its event."""
    hosting.take_over(w, machine)
    hosted = hosting.hosted(w)
    hosted.steps += 1
    return event


def emulate(hosting, w, machine):
    """Ends a step of a world with its instruction, made on the world's machine."""
    behind, event = emulated(machine)
    for frame, place, word in changed_words(machine.frames(), behind.frames()):
        hosting.write(w, frame, place, word)
    hosted = hosting.hosted(w)
    hosted.emulations += 1
    return end_step(hosting, w, behind, event)


def end_bare(hosting, w, machine, registers, pc):
    """Ends a step of a world with a bare step that was done."""
    for frame, place, _ in changed_words(machine.frames(), hosting.machine(w).frames()):
        hosting.note_written(w, frame, place)
    return end_step(hosting, w, passed(machine, registers, pc), ("done",))


def fill(hosting, w, filled, access, address, right):
    """Brings what an access wants and makes the entry for it; returns whether there was room.

    filled has the frames of the box for what was filled in this step before; it gets the one of this fill.
    """
    _, frame, cell = access
    hosted = hosting.hosted(w)
    brought = ("copy", frame) if frame in hosted.patched.copied() else frame
    kept = [filled[other] for other in filled if other != brought]
    is_writing = right == "w"
    if not hosting.stock().can_bring(w, brought, is_writing, kept):
        return False
    g = hosting.bring(w, brought, is_writing, kept)
    hosted.mapped.widen(hosting.box().meaning().page(address), g, right, cell)
    hosted.fills += 1
    filled[brought] = g
    return True


def bare_step(hosting, w, machine):
    """Makes a bare step for a world with its mapping as it is, and returns its end."""
    box = hosting.box()
    end = box.bare(hosting.hosted(w).mapped.as_dict(), machine.registers(), machine.pc())
    box.set_special("mode", 0)
    return end


def step_world(hosting, w):
    """Makes a step of a world and returns what it tells."""
    machine = hosting.machine(w)
    cause = due(machine)
    if cause is not None:
        return end_step(hosting, w, trapped(machine, cause, None), ("trap", cause))
    patched = hosting.hosted(w).patched
    filled = {}
    while True:
        end = bare_step(hosting, w, machine)
        if end[0] == "done":
            return end_bare(hosting, w, machine, end[1], end[2])
        if end[0] != "refused":
            return emulate(hosting, w, machine)
        access = wanted(machine, patched.copied(), patched.closed(), end[1], end[2])
        if access[0] == "refused":
            return end_step(hosting, w, trapped(machine, "page", end[1]), ("trap", "page"))
        # Where more is touched than the box has frames for, the host does it itself, as where an access is barred.
        if access[0] == "barred" or not fill(hosting, w, filled, access, end[1], end[2]):
            return emulate(hosting, w, machine)
