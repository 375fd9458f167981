"""Deciding: S6.7 and S6.8, and the interface of worldsalone/deciding.py."""

import random
import unittest

from drawing import drawn_book, drawn_question
from hosts import BOOK, DOUBTED
from samples import A, B, C, CAUSES, NAMES, ODD, PORTS, PRIMITIVES, T0, T1, TABLES, assert_new, made, one_book
from samples import some_specials, spoil
from termmodel import Branch, Follower
from worldsalone.books import Book
from worldsalone.deciding import decide, decide_mode, is_right
from worldsalone.errors import UnknownName
from worldsalone.facts import facts_at
from worldsalone.machines import SPECIALS
from worldsalone.meanings import Meaning
from worldsalone.papers import first_wrong, judge_papers
from worldsalone.questions import answers, stands
from worldsalone.showing import start_at
from worldsalone.starts import judge_start
from worldsalone.walks import verdict

MODES = ("user", "system")
TRAP = (("trap", "oops"),)
# For each row kind, rows of one row, and whether they are right for user mode and for system mode.
ONE_ROW = [
    ((), True, True),
    ((("move", A, B),), True, True),
    ((("prim", A, "sum", (A, B)),), True, True),
    ((("prim", A, "one", ()),), True, True),
    ((("load", A, B),), True, True),
    ((("store", A, B),), True, True),
    ((("goto", A),), True, True),
    ((("get", A, "mode"),), True, False),
    ((("get", A, "table"),), False, False),
    ((("put", "mode", A),), False, False),
    ((("put", "timer", A),), False, False),
    ((("in", A, "tty"),), False, False),
    ((("out", "tty", A),), False, False),
    (TRAP, True, True),
    ((("if", A, TRAP, ()),), True, True),
    ((("if", A, (("out", "tty", A),), TRAP),), False, False),
    ((("if", T0, (("out", "tty", A),), TRAP),), True, True),
]


def size(node):
    """The number of nodes of a paper."""
    return 1 + sum(size(inner) for inner in node[2]) if node[0] == "ask" else 1


def depth(node):
    """How deep a paper is."""
    return 1 + max(depth(inner) for inner in node[2]) if node[0] == "ask" else 0


class Deciding(unittest.TestCase):
    def check(self, told, book, mode, name="go"):
        """What is decided, with the paper or the start that shows it."""
        word, shown = decide_mode(book, name, mode)
        self.assertEqual(word, "right" if told else "wrong", (book.instruction(name), mode))
        self.assertIs(is_right(book, name, mode), told)
        if told:
            self.assertIsNone(first_wrong(book, name, mode, shown))
            self.assertLessEqual(size(shown), 20000)
            self.assertLessEqual(depth(shown), 200)
        else:
            self.assertIsNone(judge_start(book, name, mode, shown), (book.instruction(name), mode))
        return shown


class Modes(Deciding):
    def test_one_row_of_each_kind(self):
        for rows, user, system in ONE_ROW:
            book = one_book(rows, operands=2)
            self.check(user, book, "user")
            self.check(system, book, "system")

    def test_rows_that_are_alike_and_unlike_in_both_modes(self):
        for rows, _, _ in ONE_ROW:
            self.check(True, one_book(TRAP, rows, 2), "system")
            self.check(rows == (), one_book((), rows, 2), "system")
            if rows[:1] and rows[0][0] != "if":
                self.check(rows == TRAP, one_book(rows, TRAP, 2), "system")
        self.check(False, one_book((("move", A, B),), (("move", B, A),), 2), "system")
        self.check(True, one_book((("move", A, B),), (("move", B, A),), 2), "user")
        swap = (("move", T0, A), ("move", A, B), ("move", B, T0))
        self.check(True, one_book(swap, (("move", T1, B), ("move", B, A), ("move", A, T1)), 2), "system")
        self.check(False, one_book(swap, (), 2), "system")

    def test_put_back_is_right(self):
        rows = (("get", T0, "was"), ("put", "was", A), ("put", "was", T0))
        for mode in MODES:
            self.check(True, one_book(rows, operands=1), mode)
        self.check(True, one_book(rows, (), operands=1), "system")
        self.check(False, one_book(rows[:2], (), operands=1), "system")

    def test_ifs_within_ifs(self):
        inner = ("if", B, (("load", A, A),), (("store", A, B),))
        rows = (("if", A, (inner, ("goto", A)), (("if", C, TRAP, (inner,)),)),)
        other = (("if", A, (inner, ("goto", A)), (("if", C, TRAP, (("if", B, (("load", A, A),), ()),)),)),)
        for mode in MODES:
            self.check(True, one_book(rows), mode)
        self.check(False, one_book(rows, other), "system")
        self.check(False, one_book(other, rows), "system")
        self.check(True, one_book(other, rows), "user")

    def test_operands_that_may_be_one_register(self):
        user, system = (("move", A, C), ("move", B, A)), (("move", A, C), ("move", B, C))
        self.check(True, one_book(user, system), "system")
        self.check(False, one_book((("move", A, C), ("move", B, T0)), (("move", B, T0), ("move", A, C))), "system")
        self.check(False, one_book((("load", A, B), ("load", C, A)), (("load", A, B), ("load", C, B))), "system")
        self.check(False, one_book((("load", A, B), ("store", A, C)), (("store", A, C), ("load", A, B))), "system")
        for mode in MODES:
            self.check(True, one_book((("load", A, B), ("store", C, A), ("load", B, C))), mode)
        # With one register the operands are the same one.
        for registers, told in ((1, True), (2, False)):
            book = Book(registers, PRIMITIVES, CAUSES, PORTS, [("go", 2, (("move", A, B),), (("move", B, A),))])
            self.check(told, book, "system")

    def test_what_is_stored_is_read_by_nothing_else(self):
        user = (("store", A, B), ("load", T0, A), ("prim", B, "inc", (T0,)))
        self.check(True, one_book(user, (("store", A, B), ("load", T0, A), ("prim", B, "inc", (B,))), 2), "system")
        self.check(False, one_book(user, (("store", A, B), ("prim", B, "inc", (B,)), ("load", T0, A), ("store", A, B)), 2), "system")
        # A right to write is none to read.
        self.check(False, one_book(user, (("store", A, B), ("prim", B, "inc", (B,))), 2), "system")

    def test_starts_where_addresses_are_zero_or_the_next_one(self):
        self.check(False, one_book((("load", A, T0),), (), 1), "system")
        self.check(False, one_book((("store", T0, T1), ("load", A, T0)), (("store", T0, T1), ("load", T1, T0)), 1), "system")
        self.check(False, one_book((("goto", A),), (), 1), "system")
        self.check(False, one_book((("if", A, (("goto", A),), (("goto", T0),)),), (("goto", A), ("put", "was", A)), 1), "system")
        self.check(False, one_book((("goto", A), ("load", B, A)), (("load", B, A),), 2), "system")
        self.check(False, one_book((("get", T0, "table"), ("load", A, T0)), (("get", T0, "table"), ("load", T1, T0)), 1), "system")

    def test_the_built_start_is_told_for_what_it_is(self):
        meaning, machine, specials, given = self.check(False, one_book((("get", A, "was"),), operands=1), "system")
        self.assertNotEqual(machine.special("was"), specials["was"])
        self.assertEqual((machine.lines(), machine.is_out(), machine.arrivals()), ((), False, []))
        self.assertEqual((meaning.book(), set(specials), set(given)), (one_book((("get", A, "was"),), operands=1), set(SPECIALS), set(PORTS)))
        rows = (("in", T0, "tty"), ("in", T1, "net"), ("in", T1, "tty"), ("move", A, T1))
        _, machine, _, given = self.check(False, one_book(rows, operands=1), "system")
        self.assertEqual({port: len(machine.answers()[port]) for port in PORTS}, {"tty": 2, "net": 1})
        self.assertEqual({port: len(given[port]) for port in PORTS}, {"tty": 2, "net": 1})

    def test_names_are_refused_first(self):
        book = one_book(())
        for name in ODD + ("nope", "inc", "tty", ("go",), 0):
            for call in (decide_mode, is_right):
                for mode in MODES:
                    with self.assertRaises(UnknownName, msg=name) as caught:
                        call(book, name, mode)
                    self.assertIs(caught.exception.name, name)

    def test_lists_and_dicts_are_new(self):
        book = one_book((("get", A, "was"), ("in", T0, "tty")), operands=1)
        assert_new(self, lambda: decide_mode(book, "go", "system"))
        spoil(decide_mode(book, "go", "system")[1][2:])
        self.check(False, book, "system")
        self.assertIsNone(judge_start(book, "go", "system", decide_mode(book, "go", "system")[1]))


class Books(Deciding):
    def test_a_book_that_is_right(self):
        book = Book(4, [("inc", 1)], ["help", "oops"], ["tty", "net"], [
            entry for entry in BOOK.instructions() if entry[0] not in DOUBTED])
        word, papers = decide(book)
        self.assertEqual(word, "right")
        self.assertIsInstance(papers, list)
        self.assertEqual([entry[:2] for entry in papers], [(entry[0], mode) for entry in book.instructions() for mode in MODES])
        self.assertIsNone(judge_papers(book, papers))
        assert_new(self, lambda: decide(book))

    def test_a_book_without_instructions(self):
        self.assertEqual(decide(Book(1, [], [], [], [])), ("right", []))

    def test_the_first_that_is_wrong_is_told(self):
        word, name, mode, start = decide(BOOK)
        self.assertEqual((word, name, mode), ("wrong", "bad", "system"))
        self.assertIsNone(judge_start(BOOK, name, mode, start))
        good, bad, late = (("move", A, A),), (("out", "tty", A),), (("get", A, "mode"),)
        for told, entries in (
            (("a", "user"), [("a", 1, bad, bad), ("b", 1, bad, bad)]),
            (("b", "user"), [("a", 1, good, good), ("b", 1, bad, bad)]),
            (("b", "user"), [("a", 1, TRAP, bad), ("b", 1, bad, TRAP), ("c", 1, bad, bad)]),
            (("a", "system"), [("a", 1, late, late), ("b", 1, bad, bad)]),
            (("c", "system"), [("a", 1, TRAP, late), ("b", 0, (), ()), ("c", 1, (), good + bad)]),
        ):
            book = Book(1, [], ["oops"], ["tty"], entries)
            word, name, mode, start = decide(book)
            self.assertEqual((word, (name, mode)), ("wrong", told))
            self.assertIsNone(judge_start(book, name, mode, start))

    def test_each_instruction_of_the_book_of_hosts(self):
        for name, *_ in BOOK.instructions():
            self.check(name != "wild", BOOK, "user", name)
            self.check(name not in ("bad", "wild"), BOOK, "system", name)


class Limits(Deciding):
    def test_long_instructions(self):
        rows = tuple(("prim", T0, "sum", (T0, T0)) for _ in range(7)) + (("move", A, T0),)
        for mode in MODES:
            self.check(True, one_book(rows, operands=1), mode)
        self.check(False, one_book(rows, rows[1:], operands=1), "system")
        rows = (("load", T0, A), ("if", T0, (("load", T1, B),), (("store", B, A),)), ("if", T1, (("goto", C),), ()), ("store", C, T0))
        for mode in MODES:
            self.check(True, one_book(rows), mode)

    def test_papers_of_thousands_of_nodes(self):
        touches = (("load", A, A), ("load", B, B), ("store", C, A))
        ifs = (("if", A, (("goto", B),), ()), ("if", B, (("move", C, A),), (("if", C, (("goto", C),), ()),)))
        shown = self.check(True, one_book(touches + ifs), "user")
        self.assertGreater(size(shown), 500)
        self.check(False, one_book(touches + ifs, touches + ifs[:1]), "system")

    def test_many_operands_and_registers(self):
        rows = tuple(("move", ("op", k), ("op", k + 1)) for k in range(3))
        book = Book(6, [], [], [], [("go", 4, rows, rows)])
        for mode in MODES:
            self.check(True, book, mode)
        self.check(False, Book(6, [], [], [], [("go", 4, rows, rows[::-1])]), "system")


class Drawn(Deciding):
    def drawn_start(self, draw, book, mode):
        """A start of a book with one instruction go, in a small meaning."""
        operands = book.instruction("go")[1]
        code = tuple(draw.randrange(book.registers()) for _ in range(operands))
        entries = {word: (draw.randrange(3), draw.choice(("all", "all", "system")), draw.choice(("", "r", "rw", "w", "rwx")))
                   for word in range(1, 7)}
        entries[7] = (1, "all", draw.choice(("x", "rwx", "rx")))
        meaning = Meaning(book, 4, 4, TABLES, entries, {8: ("go", code)})
        frames = [[7] + [draw.randrange(8) for _ in range(3)], [8] * 4, [draw.randrange(16) for _ in range(4)]]
        specials = {name: draw.choice((0, 0, 1, draw.randrange(16))) for name in NAMES}
        specials.update(mode=draw.choice((1, 2)) if mode == "system" else 0, table=0)
        registers = [draw.choice((0, 4, draw.randrange(16))) for _ in range(book.registers())]
        given = {port: [(0, draw.randrange(16)) for _ in range(draw.randrange(3))] for port in PORTS}
        machine = made(meaning, frames=frames, registers=registers, pc=draw.randrange(4), specials=specials, answers=given)
        box = some_specials(**{name: draw.choice((0, specials[name])) for name in NAMES if name != "mode"})
        return (meaning, machine, box, {port: [draw.randrange(16)] for port in PORTS})

    def test_what_is_decided_is_what_starts_show(self):
        seen = {True: 0, False: 0}
        shown = 0
        for seed in range(500):
            draw = random.Random(seed)
            book = drawn_book(draw)
            for mode in MODES:
                told = is_right(book, "go", mode)
                self.check(told, book, mode)
                seen[told] += 1
                judged = [judge_start(book, "go", mode, self.drawn_start(draw, book, mode)) for _ in range(12)]
                self.assertNotIn("fit", judged)
                if told:
                    self.assertEqual(set(judged), {"right"}, (seed, book.instruction("go"), mode))
                shown += None in judged
        self.assertTrue(min(seen.values()) > 200, seen)
        # Most of the wrong ones show by themselves, so the starts that are drawn are ones that could show it.
        self.assertGreater(shown, seen[False] // 2)

    def test_each_wrong_branch_has_a_start(self):
        """S6.8, for branches with needless questions, too: also where addresses are 0, the pc or the next one."""
        built = 0
        for seed in range(1500):
            draw = random.Random(seed)
            book = drawn_book(draw)
            operands = book.instruction("go")[1]
            mode = draw.choice(MODES)
            branch, told = [], "open"
            while told == "open" and len(branch) < 14:
                model = Branch(book, "go", mode, branch)
                told, question = model.judged()
                if draw.random() < 0.4 and len(branch) < 6:
                    question = self.near_question(draw, operands, model.known)
                if told == "open" and stands(book, "go", mode, branch, question):
                    branch.append((question, draw.choice(answers(book, "go", mode, branch, question) + ["yes"] * (question[0] != "cell"))))
            if told == "wrong":
                self.built(book, mode, branch)
                built += 1
        self.assertGreater(built, 150)

    def built(self, book, mode, branch):
        """Checks the start that is built from a wrong branch by the words of S6.8."""
        self.assertEqual(verdict(book, "go", mode, branch), "wrong", branch)
        start = start_at(facts_at(book, "go", mode, branch))
        self.assertIsNone(judge_start(book, "go", mode, start), branch)
        follower = Follower(mode, start)
        for question, answer in branch:
            self.assertEqual(follower.answer(question), answer, (question, branch))
        model = Branch(book, "go", mode, branch)
        terms = self.terms(book, model)
        for k, one in enumerate(terms):
            for other in terms[:k]:
                self.assertEqual(follower.word(one) == follower.word(other), model.equal(one, other), (one, other, branch))
        machine = start[1]
        self.assertNotIn(machine.special("table"), [frame for frame, _ in follower.cells])
        self.assertEqual((machine.lines(), machine.is_out(), machine.arrivals()), ((), False, []))
        # Only 0, the pc and the next address may lie on one page.
        asked = [question[1] for question, _ in branch if question[0] in ("allowed", "cell")]
        words = {follower.word(term) for term in asked}
        own = {0, machine.pc(), start[0].next(machine.pc())}
        pages = [start[0].page(word) for word in words - own] + sorted({start[0].page(word) for word in own})
        self.assertEqual(len(pages), len(set(pages)), branch)

    def terms(self, book, model):
        """All terms that stand in a start, and those of the branch."""
        found = [("zero",), ("pc",), ("next",)] + [("operand", i) for i in range(model.operands)]
        found += [(word, name) for word in ("special", "box") for name in NAMES] + [("cell", k) for k in range(model.known)]
        for who, rows in (("box", model.user), ("world", model.user if model.mode == "user" else model.system)):
            waiting, many = list(rows), {port: 0 for port in PORTS}
            while waiting:
                row = waiting.pop()
                if row[0] == "in":
                    found.append(("answer", who, row[2], many[row[2]]))
                    many[row[2]] += 1
                waiting += [*row[2], *row[3]] if row[0] == "if" else []
        return list(dict.fromkeys(found + model.terms))

    def test_starts_where_the_address_0_comes_to_the_cell_of_the_pc(self):
        """There the pc has place 0, and the next address lies on its page, also where it comes to a cell."""
        o0, o1, zero, pc, behind = ("operand", 0), ("operand", 1), ("zero",), ("pc",), ("next",)
        book = one_book((("load", A, B),), (), 2)
        apart = [(("same", 0, 1), "no")]
        first = [(("allowed", zero, "r"), "yes"), (("cell", zero), 0)]
        next_told = [(("allowed", behind, "r"), "yes"), (("cell", behind), "further")]
        loaded = [(("allowed", o1, "r"), "yes"), (("cell", o1), 1)]
        unlike = [(("equal", ("cell", 1), o0), "no")]
        for start in (
            first + next_told + [(("equal", o1, behind), "yes")],
            next_told + first + loaded,
            first + [(("equal", zero, pc), "yes")] + next_told + loaded,
            [(("equal", zero, pc), "yes"), (("equal", o1, behind), "yes")] + next_told,
            first + [(("allowed", o1, "r"), "yes"), (("cell", o1), "further")],
            first + next_told + [(("equal", behind, ("special", "table")), "yes")] + loaded,
            first + [(("equal", pc, ("special", "table")), "yes")] + next_told + loaded,
            [(("equal", behind, zero), "yes"), (("equal", pc, ("special", "table")), "yes")] + next_told + loaded,
            next_told + [(("allowed", pc, "r"), "no")] + loaded,
            next_told + [(("allowed", zero, "r"), "yes"), (("cell", zero), 1)] + loaded,
            next_told + [(("allowed", zero, "w"), "yes"), (("cell", zero), "further")] + loaded,
        ):
            for mode in MODES:
                branch = apart + start + unlike
                other = book if mode == "system" else one_book((("load", A, B), ("get", T0, "was"), ("put", "was", A)), operands=2)
                if mode == "user":
                    branch = branch + [(("equal", ("cell", 1), ("box", "was")), "no")]
                self.built(other, mode, branch)
        loaded = [(("allowed", o1, "r"), "yes"), (("cell", o1), 0)]
        self.built(book, "system", apart + loaded + [(("equal", ("cell", 0), o0), "no")])
        self.built(book, "system", apart + first + loaded + [(("equal", ("cell", 0), o0), "no")])
        # Nothing asks to which cell the address 0 comes.
        self.built(book, "system", apart + [(("allowed", zero, "w"), "yes")] + loaded + [(("equal", ("cell", 0), o0), "no")])

    def near_question(self, draw, operands, known):
        """A question about few terms, so that equal ones come often."""
        terms = [("zero",), ("pc",), ("next",), ("special", "table"), ("cell", 0)] + [("operand", i) for i in range(operands)]
        kind = draw.choice(("equal", "equal", "allowed", "cell", "other"))
        if kind == "other":
            return drawn_question(draw, operands, known)
        if kind == "equal":
            return (kind, draw.choice(terms), draw.choice(terms))
        return (kind, draw.choice(terms), draw.choice("rw")) if kind == "allowed" else (kind, draw.choice(terms))


if __name__ == "__main__":
    unittest.main()
