"""The forms of rows, and the first wrong part of rows that may be anything."""

from worldsalone.kinds import is_index, is_key_of, is_tuple_of
from worldsalone.machines import SPECIALS

# What stands behind the first member of a row, member by member.
ROW_FORMS = {
    "move": ("ref", "ref"),
    "prim": ("ref", "primitive", "args"),
    "load": ("ref", "ref"),
    "store": ("ref", "ref"),
    "goto": ("ref",),
    "get": ("ref", "special"),
    "put": ("special", "ref"),
    "in": ("ref", "port"),
    "out": ("port", "ref"),
    "trap": ("cause",),
    "if": ("ref", "rows", "rows"),
}
TEMPORARIES = 4


class Known:
    """What the rows of one instruction may name."""

    def __init__(self, primitives, causes, ports, operands):
        self._arities = {name: arity for name, arity in primitives}
        self._names = {
            "primitive": list(self._arities),
            "cause": list(causes),
            "port": list(ports),
            "special": list(SPECIALS),
        }
        self._many = {"op": operands, "tmp": TEMPORARIES}

    def has_name(self, kind, thing):
        """Whether a thing is a name of a kind: primitive, cause, port or special."""
        return is_key_of(thing, self._names[kind])

    def arity(self, name):
        """The arity of a primitive."""
        return self._arities[name]

    def has_ref(self, word, thing):
        """Whether a thing is the number of an operand ("op") or of a temporary ("tmp")."""
        return is_index(thing, self._many[word])


def has_row_form(part):
    """Whether a part is a row as far as its first member and the number of its members tell."""
    if not isinstance(part, tuple) or len(part) == 0 or not isinstance(part[0], str):
        return False
    return part[0] in ROW_FORMS and len(part) == 1 + len(ROW_FORMS[part[0]])


def is_part(known, kind, part, around):
    """Whether a part, apart from its members, is of a kind; around is the tuple in which it stands."""
    if kind == "rows":
        return isinstance(part, tuple)
    if kind == "row":
        return has_row_form(part)
    if kind == "args":
        return is_tuple_of(part, known.arity(around[2]))
    if kind == "ref":
        return is_tuple_of(part, 2) and is_key_of(part[0], ("op", "tmp"))
    if kind == "number":
        return known.has_ref(around[0], part)
    return known.has_name(kind, part)


def member_kinds(kind, part):
    """The pairs (number, kind) of the members of a part that are visited behind it, in order."""
    if kind == "rows":
        return [(k, "row") for k in range(len(part))]
    if kind == "row":
        return list(enumerate(ROW_FORMS[part[0]], start=1))
    if kind == "args":
        return [(k, "ref") for k in range(len(part))]
    if kind == "ref":
        return [(1, "number")]
    return []


def first_wrong_in_rows(known, rows, path):
    """The path of the first wrong part of rows that stand at a path, or None."""
    # A list of what waits, the next at its end, so that deeply nested ifs need no deep calls.
    waiting = [("rows", rows, (), path)]
    while waiting:
        kind, part, around, at = waiting.pop()
        if not is_part(known, kind, part, around):
            return at
        for k, inner in reversed(member_kinds(kind, part)):
            waiting.append((inner, part[k], part, at + (k,)))
    return None
