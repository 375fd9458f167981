"""How rows are carried out on a draft: on one of words for machines and boxes, on one of terms for walks.

The function of each row returns None, or the end to which the row brings the instruction.
"""


def carry_move(draft, row):
    """("move", d, s)"""
    draft.assign(row[1], draft.value(row[2]))


def carry_prim(draft, row):
    """("prim", d, name, args)"""
    values = tuple([draft.value(ref) for ref in row[3]])
    draft.assign(row[1], draft.apply(row[2], values))


def carry_load(draft, row):
    """("load", d, a)"""
    address = draft.value(row[2])
    cell = draft.cell_at(address, "r")
    if cell is None:
        return ("refused", address, "r")
    draft.assign(row[1], draft.cell_word(cell))
    return None


def carry_store(draft, row):
    """("store", a, s)"""
    address = draft.value(row[1])
    cell = draft.cell_at(address, "w")
    if cell is None:
        return ("refused", address, "w")
    draft.fill_cell(cell, draft.value(row[2]))
    return None


def carry_goto(draft, row):
    """("goto", a)"""
    draft.note_goal(draft.value(row[1]))


def carry_get(draft, row):
    """("get", d, special)"""
    draft.assign(row[1], draft.get_special(row[2]))


def carry_put(draft, row):
    """("put", special, s)"""
    draft.put_special(row[1], draft.value(row[2]))


def carry_in(draft, row):
    """("in", d, port)"""
    draft.assign(row[1], draft.take_answer(row[2]))


def carry_out(draft, row):
    """("out", port, s)"""
    draft.put_out(row[1], draft.value(row[2]))


def carry_trap(_, row):
    """("trap", cause), which looks like the end that it brings."""
    return ("trap", row[1])


CARRY = {
    "move": carry_move,
    "prim": carry_prim,
    "load": carry_load,
    "store": carry_store,
    "goto": carry_goto,
    "get": carry_get,
    "put": carry_put,
    "in": carry_in,
    "out": carry_out,
    "trap": carry_trap,
}


def carry_rows(draft, rows):
    """Carries out rows on a draft and returns their end, or None if they were all carried out."""
    # A list of what waits, the next row at its end, so that deeply nested ifs need no deep calls.
    waiting = list(reversed(rows))
    while waiting != []:
        row = waiting.pop()
        if row[0] == "if":
            chosen = row[3] if draft.is_zero(row[1]) else row[2]
            waiting.extend(list(reversed(chosen)))
            continue
        carry = CARRY[row[0]]
        end = carry(draft, row)
        if end is not None:
            return end
    return None


def carry_instruction(draft, pc, is_user):
    """Carries out the instruction at pc on a draft, and returns the end, as a bare step tells it.

    The draft means something afterwards only if the end is "done".
    """
    cell = draft.cell_at(pc, "x")
    if cell is None:
        return ("refused", pc, "x")
    meaning = draft.meaning()
    code = meaning.code_of(draft.cell_word(cell))
    if code is None:
        return ("code",)
    instruction = meaning.book().instruction(code[0])
    draft.bind(code[1])
    end = carry_rows(draft, instruction[2] if is_user else instruction[3])
    return ("done", draft.registers(), draft.pc_behind(pc)) if end is None else end
