"""Books: what each instruction of a machine does."""

from worldsalone.errors import BadBook, NotThere, UnknownName
from worldsalone.kinds import is_count, is_index, is_key_of, is_list, is_tuple_of
from worldsalone.rowforms import Known, first_wrong_in_rows

LETTERS = "abcdefghijklmnopqrstuvwxyz"
NAME_SIGNS = "abcdefghijklmnopqrstuvwxyz0123456789"
COMMON_CAUSES = ("page", "code", "line", "timer")

# The numbers of the parts of a book, as they stand in paths.
REGISTERS = 0
PRIMITIVES = 1
CAUSES = 2
PORTS = 3
INSTRUCTIONS = 4


def is_name(thing):
    """Whether a thing is a name."""
    if not isinstance(thing, str) or not 1 <= len(thing) <= 12 or thing[0] not in LETTERS:
        return False
    return all([sign in NAME_SIGNS for sign in thing])


def is_many_registers(thing):
    """Whether a thing can be the number of registers of a book."""
    return is_count(thing) and thing >= 1


def is_new_name(thing, earlier):
    """Whether a thing is a name, and none of the earlier ones."""
    return is_name(thing) and thing not in earlier


def wrong_in_primitive(entry, earlier):
    """As wrong_in_entry, for a primitive."""
    if not is_tuple_of(entry, 2):
        return ()
    if not is_new_name(entry[0], earlier):
        return (0,)
    return None if is_index(entry[1], 3) else (1,)


def wrong_in_instruction(parts, entry, earlier):
    """As wrong_in_entry, for an instruction."""
    if not is_tuple_of(entry, 4):
        return ()
    name, operands, user, system = entry
    if not is_new_name(name, earlier):
        return (0,)
    if not is_count(operands):
        return (1,)
    known = Known(parts[PRIMITIVES], parts[CAUSES], parts[PORTS], operands)
    path = first_wrong_in_rows(known, user, (2,))
    return first_wrong_in_rows(known, system, (3,)) if path is None else path


def wrong_in_entry(parts, number, entry, earlier):
    """The path, from the entry on, of its first wrong part, or None.

    The entry stands in the list with this number, behind entries with the earlier names;
    the parts of the book with lower numbers are right.
    """
    if number == PRIMITIVES:
        return wrong_in_primitive(entry, earlier)
    if number == INSTRUCTIONS:
        return wrong_in_instruction(parts, entry, earlier)
    if number == CAUSES and is_key_of(entry, COMMON_CAUSES):
        return ()
    return None if is_new_name(entry, earlier) else ()


def entry_name(number, entry):
    """The name of a right entry of the list with this number."""
    return entry[0] if number in (PRIMITIVES, INSTRUCTIONS) else entry


def wrong_in_list(parts, number):
    """The path of the first wrong part of the list with this number, or None."""
    if not is_list(parts[number]):
        return (number,)
    earlier = []
    for k, entry in enumerate(parts[number]):
        path = wrong_in_entry(parts, number, entry, earlier)
        if path is not None:
            return (number, k) + path
        earlier.append(entry_name(number, entry))
    return None


def first_wrong_part(parts):
    """The path of the first wrong one of the five parts of a book, or None."""
    if not is_many_registers(parts[REGISTERS]):
        return (REGISTERS,)
    for number in (PRIMITIVES, CAUSES, PORTS, INSTRUCTIONS):
        path = wrong_in_list(parts, number)
        if path is not None:
            return path
    return None


class Book:
    """What each instruction of a machine does in user mode and in system mode; it never changes."""

    def __init__(self, registers, primitives, causes, ports, instructions):
        path = first_wrong_part((registers, primitives, causes, ports, instructions))
        if path is not None:
            raise BadBook(path)
        self._registers = registers
        self._primitives = tuple(primitives)
        self._causes = tuple(causes)
        self._ports = tuple(ports)
        self._instructions = tuple(instructions)
        self._arities = {name: arity for name, arity in primitives}
        self._by_name = {entry[0]: entry for entry in instructions}

    def registers(self):
        """The number of registers."""
        return self._registers

    def primitives(self):
        """The list of the primitives."""
        return list(self._primitives)

    def causes(self):
        """The list of the causes, without the common ones."""
        return list(self._causes)

    def ports(self):
        """The list of the ports."""
        return list(self._ports)

    def instructions(self):
        """The list of the instructions."""
        return list(self._instructions)

    def arity(self, name):
        """The arity of a primitive."""
        if not is_key_of(name, self._arities):
            raise UnknownName(name)
        return self._arities[name]

    def instruction(self, name):
        """The tuple of an instruction."""
        if not is_key_of(name, self._by_name):
            raise UnknownName(name)
        return self._by_name[name]

    def cause_number(self, name):
        """The number of a cause, also of a common one."""
        names = COMMON_CAUSES + self._causes
        if not is_key_of(name, names):
            raise UnknownName(name)
        return names.index(name)

    def cause_name(self, number):
        """The name of the cause with a number."""
        names = COMMON_CAUSES + self._causes
        if not is_index(number, len(names)):
            raise NotThere(number)
        return names[number]

    def __eq__(self, other):
        if not isinstance(other, Book) or self._registers != other._registers:
            return False
        if self._primitives != other._primitives or self._causes != other._causes:
            return False
        return self._ports == other._ports and self._instructions == other._instructions
