"""Meanings: S1.3 and the methods of Meaning."""

import unittest

from samples import A, ODD, T0, assert_new
from worldsalone.books import Book
from worldsalone.errors import BadMeaning, UnknownName
from worldsalone.meanings import Meaning

BOOK = Book(
    3,
    [("one", 0), ("inc", 1), ("sum", 2)],
    ["oops", "help"],
    ["tty"],
    [("nop", 0, (), ()), ("go", 1, (("goto", A),), ()), ("pair", 2, (("move", T0, A),), ())],
)


def usual(**told):
    """The parts of a meaning, those that are told and the usual ones."""
    parts = {
        "book": BOOK,
        "places": 4,
        "pages": 3,
        "tables": {"one": {(): 1}, "inc": {(11,): 0, (3,): 4}, "sum": {(1, 2): 3, (2, 1): 11}},
        "entries": {0: (0, "all", ""), 5: (99, "system", "rwx"), 11: (1, "all", "rx")},
        "code": {2: ("nop", ()), 7: ("pair", (0, 2)), 3: ("pair", (0, 2)), 4: ("pair", (2, 2)), 0: ("go", (1,))},
    }
    parts.update(told)
    return parts


def meant(**told):
    """The meaning with these parts."""
    return Meaning(*usual(**told).values())


class WrongMeanings(unittest.TestCase):
    def refuse(self, word, **told):
        with self.assertRaises(BadMeaning, msg=f"{word} {told}") as caught:
            meant(**told)
        self.assertEqual(caught.exception.word, word)

    def refuse_each(self, word, things):
        for thing in things:
            self.refuse(word, **{word: thing})

    def test_places(self):
        self.refuse_each("places", (0, -1, None, True, False, "4", [4], (4,), {}, BOOK))

    def test_pages(self):
        self.refuse_each("pages", (0, -1, 5, 10 ** 39, None, True, False, "3", [3], (3,), {}, BOOK))

    def test_number_of_words(self):
        none = {"tables": {}, "entries": {}, "code": {}}
        bare = Book(1, [], [], [], [])
        for places, pages, words in ((4, 1, 4), (2, 2, 4), (8, 8, 64), (10 ** 20, 10 ** 20, 10 ** 40)):
            self.assertEqual(meant(book=bare, places=places, pages=pages, **none).words(), words)
        for places, pages in ((1, 1), (2, 1), (3, 1)):
            self.refuse("pages", book=bare, places=places, pages=pages, **none)
        self.assertEqual(meant(places=6, pages=1, **none).words(), 6)
        self.assertEqual(meant(places=3, pages=2, **none).words(), 6)
        self.refuse("pages", places=5, pages=1, **none)
        self.refuse("pages", places=4, pages=1, **none)
        self.refuse("pages", places=2, pages=2, **none)

    def test_tables(self):
        self.refuse_each("tables", (None, [], (), "", 0, True, BOOK, [("one", {})]))
        for name in ("other", "", "go", "tty", None, 1, ("one",)):
            self.refuse("tables", tables={"inc": {}, name: {}})
        for table in (None, [], (), "", 0, [((1,), 1)]):
            self.refuse("tables", tables={"inc": table})
        for told in ((), (1, 2), 1, "1", None, (True,), (False,), (None,), (12,), (-1,), ("1",), ((1,),)):
            self.refuse("tables", tables={"inc": {(3,): 4, told: 1}})
        for word in (12, -1, True, False, None, "1", (1,), [1]):
            self.refuse("tables", tables={"inc": {(3,): 4, (1,): word}})
        self.refuse("tables", tables={"one": {(0,): 1}})
        self.refuse("tables", tables={"sum": {(0,): 1}})
        self.refuse("tables", tables={"sum": {(0, 12): 1}})
        self.refuse("tables", tables={"sum": {(12, 0): 1}})

    def test_entries(self):
        self.refuse_each("entries", (None, [], (), "", 0, True, BOOK))
        for word in (12, -1, None, "1", (1,), True, False):
            self.refuse("entries", entries={3: (0, "all", "r"), word: (0, "all", "r")})
        for frame in (-1, None, True, False, "0", (0,), [0]):
            self.refuse("entries", entries={1: (frame, "all", "r")})
        for who in ("user", "", "All", None, 0, True, ("all",), ["all"]):
            self.refuse("entries", entries={1: (0, who, "r")})
        for rights in ("wr", "xr", "xw", "rxw", "rr", "rwxr", "R", "a", " ", None, 0, ("r",), ["r"], True):
            self.refuse("entries", entries={1: (0, "all", rights)})
        for entry in (None, (), (0, "all"), (0, "all", "r", "r"), [0, "all", "r"], "all", 0, {}):
            self.refuse("entries", entries={1: entry})

    def test_code(self):
        self.refuse_each("code", (None, [], (), "", 0, True, BOOK))
        for word in (12, -1, None, "1", (1,), True, False):
            self.refuse("code", code={3: ("nop", ()), word: ("nop", ())})
        for name in ("other", "inc", "", None, 0, True, ("nop",), ["nop"], {}):
            self.refuse("code", code={1: (name, ())})
        for registers in ((), (0,), (0, 1, 2), [0, 1], None, 0, "01", {}):
            self.refuse("code", code={1: ("pair", registers)})
        for number in (3, -1, None, True, False, "0", (0,), [0]):
            self.refuse("code", code={1: ("pair", (0, number))})
            self.refuse("code", code={1: ("pair", (number, 0))})
        for code in (None, (), ("nop",), ("nop", (), ()), ["nop", ()], "nop", 0):
            self.refuse("code", code={1: code})

    def test_the_first_wrong_part_is_told(self):
        words = ("places", "pages", "tables", "entries", "code")
        for k in range(len(words)):
            self.refuse(words[k], **{word: None for word in words[k:]})
        self.refuse("pages", pages=1, tables=None, entries=None, code=None)

    def test_all_that_is_allowed(self):
        rights = ("", "r", "w", "x", "rw", "rx", "wx", "rwx")
        entries = {word: (word * 10, "all" if word < 4 else "system", rights[word]) for word in range(8)}
        meaning = meant(entries=entries, tables={"sum": {}}, code={})
        self.assertEqual([meaning.entry(word) for word in range(8)], list(entries.values()))
        many = Book(9, [], [], [], [("long", 9, (), ())])
        code = {1: ("long", (8, 7, 6, 5, 4, 3, 2, 1, 0)), 2: ("long", (0,) * 9)}
        self.assertEqual(meant(book=many, tables={}, code=code).code_of(2), ("long", (0,) * 9))


class Methods(unittest.TestCase):
    def setUp(self):
        self.meaning = meant()

    def test_parts(self):
        self.assertEqual(self.meaning.book(), BOOK)
        self.assertEqual((self.meaning.places(), self.meaning.pages(), self.meaning.words()), (4, 3, 12))

    def test_words(self):
        for thing in (0, 1, 5, 11):
            self.assertIs(self.meaning.is_word(thing), True)
        for thing in ODD + (12, -12, 10 ** 39, "0", (0,), self.meaning):
            self.assertIs(self.meaning.is_word(thing), False)

    def test_addresses(self):
        self.assertEqual([self.meaning.page(word) for word in range(12)], [0, 0, 0, 0, 1, 1, 1, 1, 2, 2, 2, 2])
        self.assertEqual([self.meaning.place(word) for word in range(12)], [0, 1, 2, 3] * 3)
        self.assertEqual([self.meaning.next(word) for word in range(12)], [1, 2, 3, 4, 5, 6, 7, 8, 9, 10, 11, 0])

    def test_apply(self):
        self.assertEqual(self.meaning.apply("one", ()), 1)
        self.assertEqual([self.meaning.apply("inc", (word,)) for word in (2, 3, 11)], [0, 4, 0])
        told = [self.meaning.apply("sum", pair) for pair in ((1, 2), (2, 1), (1, 1), (11, 11))]
        self.assertEqual(told, [3, 11, 0, 0])
        self.assertEqual(meant(tables={}).apply("inc", (3,)), 0)

    def test_primitives_that_are_not_there(self):
        for thing in ODD + ("other", "go", "oops", ("inc",), ["inc"], 0):
            with self.assertRaises(UnknownName) as caught:
                self.meaning.apply(thing, ())
            self.assertIs(caught.exception.name, thing)

    def test_entries_and_codes(self):
        told = [self.meaning.entry(word) for word in (0, 5, 11, 1)]
        self.assertEqual(told, [(0, "all", ""), (99, "system", "rwx"), (1, "all", "rx"), None])
        self.assertEqual([self.meaning.code_of(word) for word in (2, 3, 1)], [("nop", ()), ("pair", (0, 2)), None])

    def test_words_of_a_code(self):
        self.assertEqual(self.meaning.words_of("pair", (0, 2)), [3, 7])
        self.assertEqual(self.meaning.words_of("nop", ()), [2])
        self.assertEqual(self.meaning.words_of("go", (1,)), [0])
        none = (("pair", (2, 0)), ("pair", [0, 2]), ("pair", (0,)), ("pair", (False, 2)), ("go", (True,)), ("go", ()))
        none += (("other", ()), ("inc", (1,)), ("nop", []), ("nop", None), (["nop"], ()), ("nop", ""), ("pair", (0, 9)))
        none += (("pair", (0, -1)), ("pair", ((0,), 2)), ("pair", (0, "2")), ({}, {}), (BOOK, BOOK))
        for instruction, registers in none:
            self.assertEqual(self.meaning.words_of(instruction, registers), [])
        for thing in ODD:
            self.assertEqual(self.meaning.words_of(thing, thing), [])
        assert_new(self, lambda: self.meaning.words_of("pair", (0, 2)))

    def test_what_is_passed_stays_and_may_be_changed_afterwards(self):
        parts = usual()
        meaning = Meaning(*parts.values())
        self.assertEqual(parts, usual())
        parts["tables"]["inc"][(3,)] = 7
        parts["tables"]["one"] = {}
        parts["entries"].clear()
        parts["code"][2] = ("go", (1,))
        self.assertEqual(meaning, self.meaning)
        self.assertEqual((meaning.apply("inc", (3,)), meaning.apply("one", ())), (4, 1))
        self.assertEqual((meaning.entry(5), meaning.code_of(2)), ((99, "system", "rwx"), ("nop", ())))


class Equality(unittest.TestCase):
    def test_equal(self):
        self.assertTrue(meant() == meant())
        self.assertFalse(meant() != meant())
        same_book = Book(3, BOOK.primitives(), BOOK.causes(), BOOK.ports(), BOOK.instructions())
        self.assertTrue(meant() == meant(book=same_book))
        entries = dict(reversed(list(usual()["entries"].items())))
        self.assertTrue(meant() == meant(entries=entries))

    def test_zeros_that_are_told_make_no_difference(self):
        self.assertTrue(meant(tables={}) == meant(tables={"inc": {}, "one": {}}))
        self.assertTrue(meant(tables={}) == meant(tables={"inc": {(1,): 0}, "one": {(): 0}}))
        self.assertTrue(meant(tables={"inc": {(1,): 2}}) == meant(tables={"inc": {(1,): 2, (2,): 0}, "sum": {(0, 0): 0}}))
        self.assertFalse(meant(tables={}) == meant(tables={"inc": {(1,): 1}}))
        self.assertFalse(meant(tables={"inc": {(1,): 2}}) == meant(tables={"inc": {(2,): 2}}))

    def test_unlike_in_one_thing(self):
        others = (
            {"book": Book(3, BOOK.primitives(), BOOK.causes(), [], BOOK.instructions())},
            {"places": 6, "pages": 2},
            {"places": 5},
            {"pages": 4},
            {"tables": {"one": {(): 1}, "inc": {(3,): 4}, "sum": {(1, 2): 3, (2, 1): 10}}},
            {"entries": {0: (0, "all", ""), 5: (99, "system", "rwx"), 11: (1, "all", "r")}},
            {"entries": {}},
            {"code": {**usual()["code"], 2: ("go", (0,))}},
            {"code": {**usual()["code"], 1: ("nop", ())}},
        )
        for told in others:
            self.assertFalse(meant() == meant(**told), told)
            self.assertTrue(meant() != meant(**told), told)

    def test_equal_to_nothing_else(self):
        for thing in ODD + (BOOK, 12, "meaning", usual()):
            self.assertFalse(meant() == thing)


if __name__ == "__main__":
    unittest.main()
