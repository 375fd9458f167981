"""Verdicts: what the two walks at a branch tell of an instruction."""

from worldsalone.facts import facts_at_any
from worldsalone.walking import walked


def pairs_behind(facts, box, world):
    """The list of the pairs of terms that must be equal behind two walks that are done."""
    pairs = []
    for i in range(facts.setting().operands()):
        pairs.append((box.value(("op", i)), world.value(("op", i))))
    for cell in sorted(set(box.filled_cells() + world.filled_cells())):
        pairs.append((box.cell_word(cell), world.cell_word(cell)))
    pairs.append((box.next_pc(), world.next_pc()))
    return pairs + world.put_pairs() + box.put_pairs()


def judged_pairs(facts, pairs):
    """As judged, for two walks of which only these pairs of terms are still to be compared."""
    question = None
    for term, other in pairs:
        told = facts.compared(term, other)
        if told == "unlike":
            return ("wrong", None)
        if told is None and question is None:
            question = ("equal", term, other)
    return ("right", None) if question is None else ("open", question)


def judged_ends(facts, box, world):
    """As judged, for a box walk that does not end at a trap row, and a world walk that is not open."""
    if box.outcome[0] != world.outcome[0]:
        return ("wrong", None)
    if box.outcome[0] == "refused":
        return judged_pairs(facts, [(box.outcome[1], world.outcome[1])])
    if box.draft.has_used_ports() or world.draft.has_used_ports():
        return ("wrong", None)
    return judged_pairs(facts, pairs_behind(facts, box.draft, world.draft))


def judged(facts):
    """The pair of the verdict at a branch and, if it is "open", a question that is needed there, otherwise None."""
    if facts.is_impossible():
        return ("impossible", None)
    box = walked(facts, "box")
    if box.outcome[0] == "open":
        return box.outcome
    if box.outcome[0] == "trap":
        return ("right", None)
    world = walked(facts, "world")
    if world.outcome[0] == "open":
        return world.outcome
    return judged_ends(facts, box, world)


def verdict(book, name, mode, branch):
    """The verdict at a branch."""
    return judged(facts_at_any(book, name, mode, branch))[0]
