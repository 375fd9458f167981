"""The steps of a machine that runs alone."""

from worldsalone.carrying import carry_instruction
from worldsalone.drafts import Draft, TableWays
from worldsalone.machines import of_parts, parts_of, ready_answers


def parts_at_start(machine):
    """The parts of a machine behind part 1 of S2.4: the arrivals that are due have come."""
    parts = parts_of(machine)
    count = parts["count"]
    come = [pair[1] for pair in parts["arrivals"] if pair[0] <= count]
    parts["arrivals"] = parts["arrivals"][len(come):]
    parts["lines"] = tuple(sorted(set(list(parts["lines"]) + come)))
    return parts


def machine_at_end(meaning, parts):
    """The machine that part 3 of S2.4 makes of these parts."""
    ended = {name: parts[name] for name in parts}
    ended["count"] = parts["count"] + 1
    timer = parts["specials"]["timer"]
    if timer != 0:
        ended["specials"] = {name: parts["specials"][name] for name in parts["specials"]}
        ended["specials"]["timer"] = timer - 1
        ended["is_out"] = parts["is_out"] or timer == 1
    return of_parts(meaning, ended)


def due_cause(parts):
    """The cause "line" or "timer" of the trap that part 2 of S2.4 makes, or None."""
    if parts["specials"]["enabled"] == 0:
        return None
    if parts["lines"] != ():
        return "line"
    return "timer" if parts["is_out"] else None


def due(machine):
    """The cause "line" or "timer" if the next step would be a trap with it, otherwise None."""
    return due_cause(parts_at_start(machine))


def trapped(machine, cause, address):
    """The machine behind a step that is a trap with this cause, with an address for "page"."""
    meaning = machine.meaning()
    number = meaning.book().cause_number(cause)
    parts = parts_at_start(machine)
    specials = parts["specials"]
    specials["back"] = parts["pc"]
    specials["was"] = specials["mode"]
    specials["cause"] = number
    specials["mode"] = 1
    specials["enabled"] = 0
    parts["pc"] = specials["handler"]
    if cause == "page":
        specials["fault"] = address
    if cause == "line":
        specials["fault"] = parts["lines"][0]
        parts["lines"] = parts["lines"][1:]
    if cause == "timer":
        parts["is_out"] = False
    return machine_at_end(meaning, parts)


def passed(machine, registers, pc):
    """The machine behind a step in which nothing but the registers and the pc changed."""
    parts = parts_at_start(machine)
    parts["registers"] = registers
    parts["pc"] = pc
    return machine_at_end(machine.meaning(), parts)


def done(machine, draft, pc):
    """The machine behind a step whose instruction was done, with this draft and this pc behind it."""
    parts = parts_at_start(machine)
    parts["registers"] = draft.registers()
    parts["frames"] = draft.frames()
    parts["specials"] = draft.specials()
    parts["outs"] = draft.outs()
    parts["answers"] = draft.left(parts["answers"])
    parts["pc"] = pc
    return machine_at_end(machine.meaning(), parts)


def emulated(machine):
    """As step, but the instruction is carried out in any case."""
    draft = Draft(machine, machine.registers(), ready_answers(machine), TableWays(machine))
    end = carry_instruction(draft, machine.pc(), machine.is_user())
    if end[0] == "done":
        return (done(machine, draft, end[2]), ("done",))
    if end[0] == "refused":
        return (trapped(machine, "page", end[1]), ("trap", "page"))
    cause = "code" if end[0] == "code" else end[1]
    return (trapped(machine, cause, None), ("trap", cause))


def step(machine):
    """The tuple (machine, event) of the machine behind a step and what it did."""
    cause = due(machine)
    if cause is not None:
        return (trapped(machine, cause, None), ("trap", cause))
    return emulated(machine)


def run(machine, steps):
    """The tuple (machine, events) behind so many steps, with the list of their events."""
    events = []
    for _ in range(steps):
        machine, event = step(machine)
        events.append(event)
    return (machine, events)
