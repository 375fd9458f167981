"""Books: S1.1, S1.2, is_name and the methods of Book."""

import unittest

from samples import A, B, ODD, T0, T1, T3, assert_new, spoil
from worldsalone.books import Book, is_name
from worldsalone.errors import BadBook, NotThere, UnknownName
from worldsalone.meanings import Meaning

ALL_ROWS = (
    ("move", A, T0),
    ("prim", T0, "zero", ()),
    ("prim", T1, "inc", (A,)),
    ("prim", A, "sum", (T3, B)),
    ("load", A, T0),
    ("store", T0, A),
    ("goto", A),
    ("get", A, "mode"),
    ("put", "fault", A),
    ("in", T0, "tty"),
    ("out", "net", A),
    ("trap", "oops"),
    ("if", A, (("if", B, (("goto", T0),), (("trap", "help"),)), ("move", A, B)), ()),
    ("if", T0, (), (("store", A, B), ("prim", A, "sum", (A, A)))),
)
NAMES = ("mode", "table", "handler", "enabled", "timer", "cause", "back", "was", "fault")


def rich_parts():
    """The parts of a book with rows of each sort."""
    return [
        3,
        [("zero", 0), ("inc", 1), ("sum", 2)],
        ["oops", "help"],
        ["tty", "net"],
        [("all", 2, ALL_ROWS, ()), ("none", 0, (), ()), ("rev", 2, (("move", T0, T1),), ALL_ROWS)],
    ]


def replaced(thing, path, other):
    """A copy of a thing with another thing at a path."""
    if path == ():
        return other
    parts = list(thing)
    parts[path[0]] = replaced(parts[path[0]], path[1:], other)
    return tuple(parts) if isinstance(thing, tuple) else parts


def all_paths(thing, path=()):
    """The paths of all parts of a thing, a part before its members."""
    found = [path]
    if isinstance(thing, (list, tuple)):
        for k, part in enumerate(thing):
            found.extend(all_paths(part, path + (k,)))
    return found


def at_path(thing, path):
    """The part at a path."""
    for k in path:
        thing = thing[k]
    return thing


def told_path(parts, path):
    """The path that is told of a wrong part: the first member of a ref or row makes the whole wrong."""
    heads = ("op", "tmp", "move", "prim", "load", "store", "goto", "get", "put", "in", "out", "trap", "if")
    if path[-1] == 0 and len(path) > 3 and at_path(parts, path) in heads:
        return path[:-1]
    return path


class Names(unittest.TestCase):
    def test_names(self):
        for thing in ("a", "z9", "abcdefghijkl", "a0b1c2", "page", "if", "word", "r0"):
            self.assertIs(is_name(thing), True, thing)

    def test_no_names(self):
        things = ("", "abcdefghijklm", "9a", "0", "A", "aB", "a_b", "a b", " a", "a\n", "a-", "\u00e9", "a\u00e9")
        things += ("a\u0663", None, True, 1, ["a"], ("a",), {"a": 1}, Book(1, [], [], [], []))
        for thing in things:
            self.assertIs(is_name(thing), False, thing)


class RightBooks(unittest.TestCase):
    def test_smallest_book(self):
        book = Book(1, [], [], [], [])
        self.assertEqual(book.registers(), 1)
        for told in (book.primitives(), book.causes(), book.ports(), book.instructions()):
            self.assertEqual(told, [])

    def test_rich_book_tells_its_parts(self):
        parts = rich_parts()
        book = Book(*parts)
        self.assertEqual(book.registers(), 3)
        self.assertEqual(book.primitives(), parts[1])
        self.assertEqual(book.causes(), parts[2])
        self.assertEqual(book.ports(), parts[3])
        self.assertEqual(book.instructions(), parts[4])

    def test_tuples_may_stand_for_the_lists(self):
        parts = [tuple(part) if isinstance(part, list) else part for part in rich_parts()]
        book = Book(*parts)
        self.assertEqual(book, Book(*rich_parts()))
        self.assertEqual(book.causes(), ["oops", "help"])

    def test_great_numbers(self):
        great = 10 ** 39
        book = Book(great, [], [], [], [("go", great + 1, (("goto", ("op", great)),), ())])
        self.assertEqual(book.registers(), great)
        with self.assertRaises(BadBook) as caught:
            Book(1, [], [], [], [("go", great, (("goto", ("op", great)),), ())])
        self.assertEqual(caught.exception.path, (4, 0, 2, 0, 1, 1))

    def test_all_specials(self):
        rows = tuple([("get", A, name) for name in NAMES] + [("put", name, A) for name in NAMES])
        self.assertEqual(Book(1, [], [], [], [("go", 1, rows, rows)]).instruction("go"), ("go", 1, rows, rows))

    def test_one_name_in_several_lists(self):
        book = Book(1, [("a", 0)], ["a"], ["a"], [("a", 0, (("prim", T0, "a", ()), ("trap", "a")), ())])
        self.assertEqual(book.cause_number("a"), 4)

    def test_common_causes_are_names_for_everything_else(self):
        names = ["page", "code", "line", "timer"]
        Book(1, [(name, 0) for name in names], [], names, [(name, 0, (), ()) for name in names])

    def test_words_of_rows_are_names(self):
        names = ["if", "op", "tmp", "trap", "mode"]
        Book(1, [(name, 0) for name in names], names, names, [(name, 0, (), ()) for name in names])

    def test_deep_ifs(self):
        rows = (("trap", "oops"),)
        for _ in range(60):
            rows = (("if", T0, (), rows),)
        Book(1, [], ["oops"], [], [("go", 0, rows, ())])
        with self.assertRaises(BadBook) as caught:
            Book(1, [], ["other"], [], [("go", 0, rows, ())])
        self.assertEqual(caught.exception.path, (4, 0, 2) + (0, 3) * 60 + (0, 1))

    def test_what_is_passed_stays_and_may_be_changed_afterwards(self):
        parts = rich_parts()
        book = Book(*parts)
        self.assertEqual(parts, rich_parts())
        spoil(parts)
        self.assertEqual(book, Book(*rich_parts()))
        self.assertEqual(book.ports(), ["tty", "net"])


class WrongBooks(unittest.TestCase):
    def refuse(self, parts, path):
        with self.assertRaises(BadBook, msg=f"{path}") as caught:
            Book(*parts)
        self.assertEqual(caught.exception.path, path)

    def refuse_at(self, path, things, told=None):
        for thing in things:
            self.refuse(replaced(rich_parts(), path, thing), path if told is None else told)

    def refuse_rows(self, rows, path):
        """Rows are refused in user rows, in system rows, and inside both parts of an if."""
        for place in (2, 3):
            entry = ("go", 2, rows, ()) if place == 2 else ("go", 2, (), rows)
            self.refuse(rich_parts()[:4] + [[entry]], (4, 0, place) + path)
            for side in (2, 3):
                inner = (("move", A, A), ("if", A, rows, ()) if side == 2 else ("if", A, (), rows))
                entry = ("go", 2, inner, ()) if place == 2 else ("go", 2, (), inner)
                self.refuse(rich_parts()[:4] + [[entry]], (4, 0, place, 1, side) + path)

    def refuse_rows_with(self, row, place, things):
        for thing in things:
            self.refuse_rows((("goto", A), replaced(row, (place,), thing)), (1, place))

    def test_none_at_each_path(self):
        parts = rich_parts()
        paths = all_paths(parts)[1:]
        self.assertGreater(len(paths), 300)
        for path in paths:
            self.refuse(replaced(parts, path, None), told_path(parts, path))

    def test_two_wrong_parts(self):
        parts = rich_parts()
        paths = [path for path in all_paths(parts)[1:] if path[:2] != (4, 2)]
        for k in range(len(paths)):
            for step in (1, 2, 3, 7, 20, 65):
                if k + step < len(paths) and paths[k + step][:len(paths[k])] != paths[k]:
                    first, second = told_path(parts, paths[k]), told_path(parts, paths[k + step])
                    both = replaced(replaced(parts, paths[k], None), paths[k + step], -1)
                    self.refuse(both, min(first, second))

    def test_registers(self):
        self.refuse_at((0,), (0, -1, True, False, None, "1", [1], (1,), {}, ODD[-1]))

    def test_lists(self):
        for number in (1, 2, 3, 4):
            self.refuse_at((number,), (None, True, 1, "", "ab", {}, ODD[-1]))

    def test_primitives(self):
        entries = (None, "inc", ["new", 1], (), ("new",), ("new", 1, 1), 7, True, {})
        self.refuse_at((1, 1), entries)
        self.refuse_at((1, 1, 0), ("", "Inc", "1a", None, 1, True, ["inc"], ("inc",), "abcdefghijklm", "zero"))
        self.refuse_at((1, 1, 1), (-1, 3, True, False, None, "1", (1,), [1]))
        for arity in (0, 1, 2):
            Book(1, [("new", arity)], [], [], [])

    def test_causes(self):
        things = ("page", "code", "line", "timer", "oops", "", "A", None, 4, True, ("new",), ["new"], {})
        self.refuse_at((2, 1), things)

    def test_ports(self):
        self.refuse_at((3, 1), ("tty", "", "A", "a.b", None, 4, True, ("new",), ["new"], {}))

    def test_instructions(self):
        entries = (None, "new", ["new", 0, (), ()], (), ("new", 0, ()), ("new", 0, (), (), ()), 7, {})
        self.refuse_at((4, 1), entries)
        self.refuse_at((4, 1, 0), ("all", "", "None", None, True, 0, ("new",), ["new"]))
        self.refuse_at((4, 1, 1), (-1, None, True, False, "0", (0,), [0]))
        for place in (2, 3):
            self.refuse_at((4, 1, place), (None, [], [("trap", "oops")], "", {}, 0, True))

    def test_names_told_twice(self):
        parts = rich_parts()
        self.refuse(replaced(parts, (1, 2), ("zero", 9)), (1, 2, 0))
        self.refuse(replaced(parts, (4, 2), ("all", -1, None, None)), (4, 2, 0))
        self.refuse(replaced(parts, (2,), ["oops", "a", "b", "a"]), (2, 3))
        self.refuse(replaced(parts, (3,), ("tty", "tty", "tty")), (3, 1))

    def test_rows_that_are_wrong_as_a_whole(self):
        things = (None, True, 1, "goto", [], (), ["goto", A], ("goto",), ("goto", A, A), ("go", A), (A, A))
        things += (("move", A), ("move", A, A, A), ("prim", A, "inc"), ("prim", A, "inc", (A,), A), ("", A))
        things += (("load", A), ("store", A, A, A), ("get", A), ("put", "mode", A, A), ("in", A), ("out", "tty"))
        things += (("trap",), ("trap", "oops", "oops"), ("if", A, ()), ("if", A, (), (), ()), ("else",), (["goto"], A))
        things += ((None, A), ({}, A), (True, A), ("GOTO", A), ("op", 0), ("tmp", 0))
        for thing in things:
            self.refuse_rows((("move", A, B), thing, None), (1,))

    def test_rows_inside_an_if_that_are_no_tuple(self):
        for thing in (None, [], [("goto", A)], "", 0, True, {}):
            self.refuse_rows((("if", A, thing, None),), (0, 2))
            self.refuse_rows((("if", A, (), thing),), (0, 3))

    def test_refs(self):
        places = {
            "move": (1, 2), "prim": (1,), "load": (1, 2), "store": (1, 2), "goto": (1,), "get": (1,), "put": (2,),
            "in": (1,), "out": (2,), "if": (1,),
        }
        wholes = (None, 0, "o0", "op", [], ["op", 0], (), ("op",), ("op", 0, 0), ("opp", 0), (0, "op"), ({}, 0), (None, 0))
        for row in ALL_ROWS:
            for place in places.get(row[0], ()):
                self.refuse_rows_with(row, place, wholes)
                for ref in (("op", 2), ("op", -1), ("op", True), ("op", False), ("op", None), ("op", "0"), ("op", (0,))):
                    self.refuse_rows((replaced(row, (place,), ref),), (0, place, 1))
                for ref in (("tmp", 4), ("tmp", -1), ("tmp", True), ("tmp", None), ("tmp", [0])):
                    self.refuse_rows((replaced(row, (place,), ref),), (0, place, 1))

    def test_operands_are_those_of_the_instruction(self):
        for operands in (1, 2, 3):
            Book(1, [], [], [], [("go", operands, (("goto", ("op", operands - 1)),), ())])
            self.refuse([1, [], [], [], [("go", operands, (("goto", ("op", operands)),), ())]], (4, 0, 2, 0, 1, 1))

    def test_temporaries(self):
        for number in (0, 1, 2, 3):
            Book(1, [], [], [], [("go", 0, (("goto", ("tmp", number)),), ())])

    def test_names_in_rows(self):
        wrong = (None, True, 0, "", "other", ["inc"], ("inc",), {}, ODD[-1])
        self.refuse_rows_with(("prim", A, "inc", (A,)), 2, wrong + ("tty", "oops", "mode", "all"))
        self.refuse_rows_with(("get", A, "mode"), 2, wrong + ("pc", "inc", "flag"))
        self.refuse_rows_with(("put", "mode", A), 1, wrong + ("pc", "tty"))
        self.refuse_rows_with(("in", A, "tty"), 2, wrong + ("oops", "inc"))
        self.refuse_rows_with(("out", "tty", A), 1, wrong + ("oops", "inc"))
        self.refuse_rows_with(("trap", "oops"), 1, wrong + ("page", "code", "line", "timer", "tty"))

    def test_args(self):
        wrong = (None, "", [], [A], [A, A], (), (A,), (A, A, A), (None, None, None), 2, True, {}, "ab")
        self.refuse_rows_with(("prim", A, "sum", (A, A)), 3, wrong)
        self.refuse_rows_with(("prim", A, "zero", ()), 3, ([], None, (A,), A, "", 0))
        for place in (0, 1):
            for ref in (None, 0, ["op", 0], ("op",), "o0"):
                args = (ref, A) if place == 0 else (A, ref)
                self.refuse_rows((("prim", A, "sum", args),), (0, 3, place))
            args = (("op", 2), A) if place == 0 else (A, ("tmp", 4))
            self.refuse_rows((("prim", A, "sum", args),), (0, 3, place, 1))

    def test_a_wrong_name_hides_the_args(self):
        self.refuse_rows((("prim", A, "other", None),), (0, 2))
        self.refuse_rows((("prim", None, "other", None),), (0, 1))

    def test_the_first_wrong_part_is_told(self):
        self.refuse_rows((("if", None, None, None),), (0, 1))
        self.refuse_rows((("if", A, (("goto", None), None), None), None), (0, 2, 0, 1))
        self.refuse_rows((("if", A, (("if", A, (), (("trap", "x"),)),), (None,)), None), (0, 2, 0, 3, 0, 1))
        self.refuse_rows((("if", A, (("goto", A),), (("goto", None), None)), None), (0, 3, 0, 1))
        self.refuse([0, None, None, None, None], (0,))
        self.refuse([1, [None], [None], [None], [None]], (1, 0))
        self.refuse([1, [], [None], None, None], (2, 0))
        self.refuse([1, [], [], [1], None], (3, 0))
        self.refuse([1, [], [], [], [("a", 0, (None,), None)]], (4, 0, 2, 0))

    def test_errors_are_bad_books(self):
        for thing in ODD:
            if thing != []:
                with self.assertRaises(BadBook):
                    Book(1, [thing], thing, thing, thing)


class Methods(unittest.TestCase):
    def setUp(self):
        self.book = Book(*rich_parts())

    def test_arity(self):
        self.assertEqual([self.book.arity(name) for name in ("zero", "inc", "sum")], [0, 1, 2])
        for thing in ODD + ("oops", "tty", "all", "page", "other", ("zero", 0), ["zero"]):
            with self.assertRaises(UnknownName) as caught:
                self.book.arity(thing)
            self.assertIs(caught.exception.name, thing)

    def test_instruction(self):
        for entry in rich_parts()[4]:
            self.assertEqual(self.book.instruction(entry[0]), entry)
        for thing in ODD + ("inc", "oops", "tty", "other", ["all"], ("all",)):
            with self.assertRaises(UnknownName) as caught:
                self.book.instruction(thing)
            self.assertIs(caught.exception.name, thing)

    def test_numbers_of_causes(self):
        names = ["page", "code", "line", "timer", "oops", "help"]
        self.assertEqual([self.book.cause_number(name) for name in names], [0, 1, 2, 3, 4, 5])
        self.assertEqual([self.book.cause_name(number) for number in range(6)], names)

    def test_causes_that_are_not_there(self):
        for thing in ODD + ("inc", "tty", "all", "other", ["page"], ("page",), 0):
            with self.assertRaises(UnknownName) as caught:
                self.book.cause_number(thing)
            self.assertIs(caught.exception.name, thing)
        for thing in ODD + (6, -6, 10 ** 39, "0", "page", (0,)):
            with self.assertRaises(NotThere) as caught:
                self.book.cause_name(thing)
            self.assertIs(caught.exception.number, thing)

    def test_causes_of_a_book_without_any(self):
        book = Book(1, [], [], [], [])
        self.assertEqual(book.cause_name(3), "timer")
        with self.assertRaises(NotThere):
            book.cause_name(4)

    def test_lists_are_new(self):
        for call in (self.book.primitives, self.book.causes, self.book.ports, self.book.instructions):
            assert_new(self, call)
            spoil(call())
        self.assertEqual(self.book, Book(*rich_parts()))
        self.assertEqual(self.book.causes(), ["oops", "help"])

    def test_equality(self):
        self.assertTrue(self.book == Book(*rich_parts()))
        self.assertFalse(self.book != Book(*rich_parts()))
        others = (
            ((0,), 4),
            ((1,), [("zero", 0), ("sum", 2), ("inc", 1)]),
            ((1,), [("zero", 0), ("inc", 1), ("sum", 2), ("more", 0)]),
            ((2,), ["help", "oops"]),
            ((3,), ["tty", "net", "more"]),
            ((4, 1, 1), 1),
            ((4, 1, 2), (("goto", T0),)),
            ((4, 1, 3), (("goto", T0),)),
            ((4, 1, 0), "other"),
        )
        for path, thing in others:
            other = Book(*replaced(rich_parts(), path, thing))
            self.assertFalse(self.book == other, path)
            self.assertTrue(self.book != other, path)

    def test_equal_to_nothing_else(self):
        meaning = Meaning(self.book, 4, 4, {}, {}, {})
        for thing in ODD + (3, "book", rich_parts(), tuple(rich_parts()), meaning):
            self.assertFalse(self.book == thing)
            self.assertTrue(self.book != thing)


if __name__ == "__main__":
    unittest.main()
