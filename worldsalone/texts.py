"""The one text of a book, and the one text of a list of words."""

from worldsalone.books import Book, entry_name, is_many_registers, wrong_in_entry
from worldsalone.books import CAUSES, INSTRUCTIONS, PORTS, PRIMITIVES, REGISTERS
from worldsalone.errors import BadText
from worldsalone.rowforms import Known
from worldsalone.rowtexts import Lines, number_of, read_rows, row_lines


def book_text(book):
    """The text of a book."""
    lines = ["registers " + str(book.registers())]
    lines.extend([f"primitive {name} {arity}" for name, arity in book.primitives()])
    lines.extend(["cause " + name for name in book.causes()])
    lines.extend(["port " + name for name in book.ports()])
    for name, operands, user, system in book.instructions():
        lines.append(f"instruction {name} {operands}")
        lines.extend(["user"] + row_lines(user) + ["system"] + row_lines(system))
    return "\n".join(lines)


def entry_of(number, members):
    """The entry of the list with this number that a line tells, an instruction without rows; or None."""
    if number in (CAUSES, PORTS):
        return members[1] if len(members) == 2 else None
    if len(members) != 3:
        return None
    told = (members[1], number_of(members[2]))
    return told + ((), ()) if number == INSTRUCTIONS else told


def read_entry(lines, parts, number):
    """Reads the first line of an entry of the list with this number, and returns the entry."""
    entry = entry_of(number, lines.members())
    earlier = [entry_name(number, told) for told in parts[number]]
    if wrong_in_entry(parts, number, entry, earlier) is not None:
        raise BadText(lines.place())
    lines.skip()
    return entry


def read_registers(lines):
    """Reads the line of the number of registers."""
    members = lines.members()
    number = number_of(members[1]) if len(members) == 2 and members[0] == "registers" else None
    if not is_many_registers(number):
        raise BadText(lines.place())
    lines.skip()
    return number


def read_instruction(lines, parts):
    """Reads the lines of an instruction."""
    if lines.head() != "instruction":
        raise BadText(lines.place())
    entry = read_entry(lines, parts, INSTRUCTIONS)
    known = Known(parts[PRIMITIVES], parts[CAUSES], parts[PORTS], entry[1])
    lines.expect("user")
    user = read_rows(lines, known)
    lines.expect("system")
    return (entry[0], entry[1], user, read_rows(lines, known))


def read_book(text):
    """The book of a text."""
    lines = Lines(text)
    parts = [read_registers(lines), [], [], [], []]
    for number, word in ((PRIMITIVES, "primitive"), (CAUSES, "cause"), (PORTS, "port")):
        while lines.head() == word:
            parts[number].append(read_entry(lines, parts, number))
    while not lines.is_over():
        parts[INSTRUCTIONS].append(read_instruction(lines, parts))
    return Book(parts[REGISTERS], parts[PRIMITIVES], parts[CAUSES], parts[PORTS], parts[INSTRUCTIONS])


def word_line(meaning, word):
    """The line of a word."""
    code = meaning.code_of(word)
    if code is None or meaning.words_of(code[0], code[1])[0] != word:
        return "word " + str(word)
    return " ".join([code[0]] + ["r" + str(number) for number in code[1]])


def words_text(meaning, words):
    """The text of a list of words."""
    return "\n".join([word_line(meaning, word) for word in words])


def register_of(text):
    """The number of the register that stands in a line, or None."""
    return number_of(text[1:]) if text[:1] == "r" else None


def word_of(meaning, members):
    """The word of a line, or None."""
    if len(members) == 2 and members[0] == "word":
        number = number_of(members[1])
        if meaning.is_word(number):
            return number
    found = meaning.words_of(members[0], tuple([register_of(text) for text in members[1:]]))
    return found[0] if found != [] else None


def read_words(meaning, text):
    """The list of words of a text."""
    words = []
    if text == "":
        return words
    for place, line in enumerate(text.split("\n")):
        word = word_of(meaning, line.split(" "))
        if word is None:
            raise BadText(place)
        words.append(word)
    return words
