"""Meanings: the words, the tables of the primitives, and what words stand for."""

from worldsalone.books import COMMON_CAUSES
from worldsalone.errors import BadMeaning, UnknownName
from worldsalone.kinds import is_count, is_index, is_key_of, is_number, is_tuple_of

WHO = ("all", "system")
RIGHTS = ("", "r", "w", "x", "rw", "rx", "wx", "rwx")


def are_pages(book, places, thing):
    """Whether a thing can be the number of pages of a meaning with so many places."""
    if not is_count(thing) or not 1 <= thing <= places:
        return False
    # The common causes alone are more than two, so there are always at least two words.
    return places * thing >= len(COMMON_CAUSES) + len(book.causes())


def is_table(words, arity, thing):
    """Whether a thing is a dict from tuples of as many words to words, where there are so many words."""
    if not isinstance(thing, dict):
        return False
    for told in thing:
        if not is_tuple_of(told, arity) or not all([is_index(word, words) for word in told]):
            return False
        if not is_index(thing[told], words):
            return False
    return True


def are_tables(book, words, thing):
    """Whether a thing can be the tables of a meaning."""
    if not isinstance(thing, dict):
        return False
    names = [entry[0] for entry in book.primitives()]
    for name in thing:
        if not is_key_of(name, names) or not is_table(words, book.arity(name), thing[name]):
            return False
    return True


def is_entry(thing):
    """Whether a thing can be what a word stands for as an entry."""
    if not is_tuple_of(thing, 3):
        return False
    frame, who, rights = thing
    return is_count(frame) and is_key_of(who, WHO) and is_key_of(rights, RIGHTS)


def are_entries(words, thing):
    """Whether a thing can be the entries of a meaning."""
    if not isinstance(thing, dict):
        return False
    return all([is_index(word, words) and is_entry(thing[word]) for word in thing])


def is_code(book, operands, thing):
    """Whether a thing can be what a word stands for as code; operands gives their number for each instruction."""
    if not is_tuple_of(thing, 2):
        return False
    name, registers = thing
    if not is_key_of(name, operands) or not is_tuple_of(registers, operands[name]):
        return False
    return all([is_index(number, book.registers()) for number in registers])


def are_codes(book, words, thing):
    """Whether a thing can be the code of a meaning."""
    if not isinstance(thing, dict):
        return False
    operands = {entry[0]: entry[1] for entry in book.instructions()}
    return all([is_index(word, words) and is_code(book, operands, thing[word]) for word in thing])


def first_wrong_word(book, places, pages, tables, entries, code):
    """The word for the first wrong part of a meaning, or None."""
    if not is_count(places) or places < 1:
        return "places"
    if not are_pages(book, places, pages):
        return "pages"
    words = places * pages
    if not are_tables(book, words, tables):
        return "tables"
    if not are_entries(words, entries):
        return "entries"
    return None if are_codes(book, words, code) else "code"


def told_words(table):
    """A table without what it tells needlessly: the words that are 0."""
    return {told: table[told] for told in table if table[told] != 0}


class Meaning:
    """What the words of a machine stand for; it never changes."""

    def __init__(self, book, places, pages, tables, entries, code):
        word = first_wrong_word(book, places, pages, tables, entries, code)
        if word is not None:
            raise BadMeaning(word)
        self._book = book
        self._places = places
        self._pages = pages
        # Every primitive has a table without zeros, so that equal meanings have equal tables.
        self._tables = {entry[0]: told_words(tables.get(entry[0], {})) for entry in book.primitives()}
        self._entries = {told: entries[told] for told in entries}
        self._code = {told: code[told] for told in code}

    def book(self):
        """The book."""
        return self._book

    def places(self):
        """The number of places of a page."""
        return self._places

    def pages(self):
        """The number of pages."""
        return self._pages

    def words(self):
        """The number of words."""
        return self._places * self._pages

    def is_word(self, thing):
        """Whether a thing is a word."""
        return is_index(thing, self._places * self._pages)

    def page(self, address):
        """The page of an address."""
        return address // self._places

    def place(self, address):
        """The place of an address on its page."""
        return address % self._places

    def next(self, address):
        """The next address."""
        return (address + 1) % self.words()

    def apply(self, name, args):
        """The word that a primitive gives for a tuple of words."""
        if not is_key_of(name, self._tables):
            raise UnknownName(name)
        return self._tables[name].get(args, 0)

    def entry(self, word):
        """What a word stands for as an entry, or None."""
        return self._entries.get(word, None)

    def code_of(self, word):
        """What a word stands for as code, or None."""
        return self._code.get(word, None)

    def words_of(self, instruction, registers):
        """The ascending list of the words with this code."""
        # Without this True would pass for the register 1.
        if not isinstance(registers, tuple) or not all([is_number(thing) for thing in registers]):
            return []
        return sorted([word for word in self._code if self._code[word] == (instruction, registers)])

    def __eq__(self, other):
        if not isinstance(other, Meaning) or self._book != other._book:
            return False
        if self._places != other._places or self._pages != other._pages:
            return False
        if self._tables != other._tables or self._entries != other._entries:
            return False
        return self._code == other._code
