"""Terms, questions and branches: S6.2 to S6.4, and the interface of worldsalone/questions.py."""

import itertools
import random
import unittest

from asking import MODES, NEXT, PC, ZERO, allowed, cell, equal, inc, plus, same
from samples import A, B, C, NAMES, ODD, PORTS, PRIMITIVES, T0, TABLES, assert_new, made, one_book, one_meaning
from samples import some_specials
from worldsalone.books import Book
from worldsalone.copies import Copies
from worldsalone.errors import BadPaper, UnknownName
from worldsalone.mappings import Mapping
from worldsalone.questions import answers, compared, stands
from worldsalone.tables import translated

# Two in rows of tty and one of net in user rows, one of net in system rows; some inside ifs.
USER = (("in", A, "tty"), ("if", A, (("if", B, (), (("in", T0, "net"),)),), (("in", B, "tty"),)))
SYSTEM = (("if", A, (("in", A, "net"),), ()),)
BOOK = one_book(USER, SYSTEM)


def op(i):
    """The term of an operand."""
    return ("operand", i)


class Terms(unittest.TestCase):
    def may_occur(self, term, branch=(), book=BOOK, name="go"):
        """For both modes, whether questions with a term stand, wherever it stands in them."""
        found = []
        for mode in MODES:
            questions = [("equal", term, ZERO), ("equal", PC, term), ("allowed", term, "r"), ("equal", inc(term), ZERO)]
            questions.append(("equal", ZERO, plus(inc(ZERO), inc(term))))
            told = {stands(book, name, mode, list(branch), question) for question in questions}
            self.assertEqual(len(told), 1, term)
            found.extend(told)
        return found

    def test_terms_that_always_occur(self):
        for term in (ZERO, PC, NEXT, ("cell", 0)):
            self.assertEqual(self.may_occur(term), [True, True])
        for name in NAMES:
            self.assertEqual(self.may_occur(("special", name)), [True, True])
            self.assertEqual(self.may_occur(("box", name)), [True, True])

    def test_operands(self):
        for i in range(3):
            self.assertEqual(self.may_occur(op(i)), [True, True])
        self.assertEqual(self.may_occur(op(3)), [False, False])
        self.assertEqual(self.may_occur(op(0), name="nop"), [False, False])

    def test_cells(self):
        self.assertEqual(self.may_occur(("cell", 1)), [False, False])
        known = [allowed(op(0), "r"), cell(op(0)), allowed(op(1), "r"), cell(op(1), 1)]
        self.assertEqual(self.may_occur(("cell", 1), known), [True, True])
        self.assertEqual(self.may_occur(("cell", 2), known), [False, False])
        known += [allowed(op(2), "w"), cell(op(2), "further")]
        self.assertEqual(self.may_occur(("cell", 2), known), [True, True])
        self.assertEqual(self.may_occur(("cell", 3), known), [False, False])

    def test_answers_count_the_in_rows_of_the_port(self):
        told = {("box", "tty"): (2, 2), ("box", "net"): (1, 1), ("world", "tty"): (2, 0), ("world", "net"): (1, 1)}
        for (who, port), many in told.items():
            for k in range(4):
                self.assertEqual(self.may_occur(("answer", who, port, k)), [k < many[0], k < many[1]], (who, port, k))

    def test_primitives(self):
        self.assertEqual(self.may_occur(("prim", "one", ())), [True, True])
        self.assertEqual(self.may_occur(plus(op(0), inc(("special", "was")))), [True, True])
        self.assertEqual(self.may_occur(plus(op(0), inc(op(3)))), [False, False])
        deep = op(2)
        for _ in range(28):
            deep = inc(deep)
        self.assertEqual(self.may_occur(deep), [True, True])

    def test_things_that_are_no_terms(self):
        odd = list(ODD) + ["zero", "pc", ["zero"], ("zero", 0), ("pc", ()), ("next", None), ("Zero",), ("here",), ((),)]
        for thing in ODD + (3, 10 ** 39, "0"):
            odd += [("operand", thing), ("cell", thing), ("answer", "box", "tty", thing)]
        for thing in ODD + ("nope", "Mode", "tty", 0, ("mode",)):
            odd += [("special", thing), ("box", thing), (thing,), (thing, 0)]
        for thing in ODD + ("nope", "TTY", "mode", 0):
            odd += [("answer", "box", thing, 0), ("answer", thing, "tty", 0)]
        for thing in ODD + ("nope", "go", 0):
            odd += [("prim", thing, ()), ("prim", thing, (ZERO,))]
        for args in (ZERO, None, [], [ZERO], (), (ZERO, ZERO, ZERO), (ZERO,), ((ZERO,), ZERO), (ZERO, None), "ab", (1, 2)):
            odd.append(("prim", "sum", args))
        odd += [("prim", "one", []), ("prim", "one", (ZERO,)), ("prim", "one", None), ("prim", "inc", ()), ("operand",)]
        odd += [("operand", 0, 0), ("special",), ("special", "mode", 0), ("box",), ("cell",), ("cell", 0, 0), ["operand", 0]]
        odd += [("answer", "box", "tty"), ("answer", "box", "tty", 0, 0), ("prim", "one"), ("prim", "one", (), ())]
        odd += [plus(op(1), ("operand", True)), plus(("operand", True), op(1)), ("prim", "inc", [ZERO]), ["prim", "one", ()]]
        odd += [{"zero": 0}, Mapping(), Copies(one_meaning(BOOK), []), BOOK, ("operand", BOOK), (BOOK,), ("prim", "inc", (BOOK,))]
        for thing in odd:
            self.assertEqual(self.may_occur(thing), [False, False], thing)


class Questions(unittest.TestCase):
    def check(self, question, told, branch=(), book=BOOK, name="go", modes=MODES):
        for mode in modes:
            self.assertIs(stands(book, name, mode, list(branch), question), told, (mode, question))
            self.assertIs(stands(book, name, mode, tuple(branch), question), told, (mode, question))
            if not told:
                with self.assertRaises(BadPaper):
                    answers(book, name, mode, list(branch), question)

    def test_same(self):
        for i in range(-1, 5):
            for j in range(-1, 5):
                self.check(("same", i, j), 0 <= i < j < 3)
        for thing in ODD + ("0", (0,)):
            self.check(("same", thing, 2), False)
            self.check(("same", 0, thing), False)
        self.check(("same", 0, 1), False, name="nop")

    def test_equal(self):
        for question in (("equal", ZERO, ZERO), ("equal", op(0), op(0)), ("equal", op(2), ("cell", 0)), ("equal", PC, NEXT)):
            self.check(question, True)
        for question in (("equal", op(3), ZERO), ("equal", ZERO, op(3)), ("equal", ZERO, ("cell", 1)), ("equal", None, None)):
            self.check(question, False)

    def test_allowed(self):
        for right in ("r", "w"):
            for term in (ZERO, PC, NEXT, op(1), inc(op(0)), ("box", "table")):
                self.check(("allowed", term, right), True)
            self.check(("allowed", op(3), right), False)
        for right in ODD + ("x", "rw", "R", ("r",), 0):
            self.check(("allowed", ZERO, right), False)

    def test_cell(self):
        self.check(("cell", op(0)), False)
        for right in ("r", "w"):
            self.check(("cell", op(0)), True, [allowed(op(0), right)])
            self.check(("cell", op(0)), False, [allowed(op(0), right, "no")])
            self.check(("cell", op(1)), False, [allowed(op(0), right)])
            self.check(("cell", op(1)), True, [allowed(op(0), right), equal(op(0), op(1))])
            self.check(("cell", op(1)), True, [same(0, 1), allowed(op(0), right)])
            self.check(("cell", op(1)), False, [allowed(op(0), right), equal(op(0), op(1), "no")])
            self.check(("cell", inc(op(1))), True, [equal(op(0), op(1)), allowed(inc(op(0)), right)])
        self.check(("cell", op(0)), True, [allowed(op(0), "r", "no"), allowed(op(0), "w")])
        self.check(("cell", op(0)), True, [allowed(op(0), "w"), allowed(op(0), "r", "no"), cell(op(0))])
        self.check(("cell", op(0)), False, [allowed(op(0), "w", "no"), allowed(op(0), "r", "no")])
        self.check(("cell", ("cell", 1)), False, [allowed(op(0), "r"), cell(op(0))])
        self.check(("cell", ("box", "mode")), True, [allowed(ZERO, "r")])
        self.check(("cell", ("special", "mode")), True, [allowed(ZERO, "r")], modes=("user",))
        self.check(("cell", ("special", "mode")), False, [allowed(ZERO, "r")], modes=("system",))
        self.check(("cell", PC), False)
        self.check(("cell", PC), True, [allowed(PC, "r")])

    def test_things_of_all_kinds(self):
        odd = list(ODD) + ["same", ("same",), ("same", 0), ("same", 0, 1, 2), ["same", 0, 1], ("SAME", 0, 1), ("equal", ZERO)]
        odd += [("equal", ZERO, ZERO, ZERO), ["equal", ZERO, ZERO], ("equal", [ZERO], ZERO), ("equal", ["zero"], ZERO)]
        odd += [("allowed", ZERO), ("allowed", ZERO, "r", "w"), ("cell",), ("cell", ZERO, ZERO), ["cell", ZERO], ("zero",)]
        odd += [(None, 0, 1), ((), 0, 1), ("", 0, 1), (["same"], 0, 1), ({}, ZERO), ("ask", ZERO, ZERO), ("right",)]
        odd += [("cell", "zero"), ("same", ZERO, ZERO), ("equal", 0, 1), Mapping(), BOOK, (BOOK, 0, 1), 10 ** 39]
        deep = ()
        for _ in range(60):
            deep = (deep,)
        odd += [deep, ("equal", deep, ZERO), ("cell", deep), ("allowed", deep, "r"), ("same", deep, 1)]
        for thing in odd:
            self.check(thing, False, [allowed(ZERO, "r")])

    def test_questions_may_be_asked_again(self):
        branch = [equal(op(0), op(1)), same(0, 2, "no"), allowed(op(0), "r"), cell(op(0))]
        for question, _ in branch:
            self.check(question, True, branch)
        self.check(("equal", op(0), op(1)), True, branch + [equal(op(0), op(1))])

    def test_answers_come_in_order(self):
        for mode in MODES:
            for question in (("same", 0, 1), ("equal", PC, op(0)), ("allowed", ZERO, "w")):
                self.assertEqual(answers(BOOK, "go", mode, [], question), ["yes", "no"])
            branch = [allowed(op(0), "r"), allowed(op(1), "r"), allowed(op(2), "r")]
            self.assertEqual(answers(BOOK, "go", mode, branch, ("cell", op(0))), [0, "further"])
            branch += [cell(op(0))]
            self.assertEqual(answers(BOOK, "go", mode, branch, ("cell", op(0))), [0, 1, "further"])
            branch += [cell(op(1), 0)]
            self.assertEqual(answers(BOOK, "go", mode, branch, ("cell", op(1))), [0, 1, "further"])
            branch += [cell(op(2))]
            self.assertEqual(answers(BOOK, "go", mode, branch, ("cell", op(0))), [0, 1, 2, "further"])
            assert_new(self, lambda: answers(BOOK, "go", mode, branch, ("cell", op(0))))
            assert_new(self, lambda: answers(BOOK, "go", mode, branch, ("same", 0, 1)))

    def test_the_branch_stays(self):
        branch = [equal(op(0), op(1)), allowed(op(0), "r"), cell(op(0))]
        kept = list(branch)
        stands(BOOK, "go", "user", branch, ("cell", op(1)))
        answers(BOOK, "go", "user", branch, ("cell", op(1)))
        compared(BOOK, "go", "user", branch, op(0), op(1))
        self.assertEqual(branch, kept)

    def test_names_are_refused_first(self):
        for name in ODD + ("nope", "inc", "tty", ("go",), 0):
            for call in (stands, answers):
                with self.assertRaises(UnknownName, msg=name) as caught:
                    call(BOOK, name, "user", [], None)
                self.assertIs(caught.exception.name, name)
            with self.assertRaises(UnknownName) as caught:
                compared(BOOK, name, "user", [], ZERO, ZERO)
            self.assertIs(caught.exception.name, name)


class Compared(unittest.TestCase):
    def check(self, term, other, told, branch=(), modes=MODES):
        for mode in modes:
            for one, another in ((term, other), (other, term)):
                self.assertEqual(compared(BOOK, "go", mode, list(branch), one, another), told, (mode, one, another))

    def test_the_same_terms(self):
        for term in (ZERO, PC, NEXT, op(0), ("special", "was"), ("cell", 0), plus(op(0), inc(PC)), ("prim", "one", ())):
            self.check(term, term, "equal")

    def test_other_terms_are_neither(self):
        terms = [ZERO, PC, op(0), op(1), ("special", "was"), ("box", "was"), ("cell", 0), inc(op(0)), inc(op(1))]
        terms += [("answer", "box", "net", 0), ("answer", "world", "net", 0), ("prim", "one", ()), plus(PC, ZERO)]
        for k, term in enumerate(terms):
            for other in terms[:k]:
                self.check(term, other, None)
        self.check(plus(op(0), op(1)), plus(op(1), op(0)), None)

    def test_modes(self):
        self.check(("box", "mode"), ZERO, "equal")
        self.check(("special", "mode"), ZERO, "equal", modes=("user",))
        self.check(("special", "mode"), ("box", "mode"), "equal", modes=("user",))
        self.check(("special", "mode"), ZERO, "unlike", modes=("system",))
        self.check(("special", "mode"), ("box", "mode"), "unlike", modes=("system",))
        self.check(("special", "mode"), op(0), "unlike", [equal(op(0), ZERO)], modes=("system",))
        self.check(op(1), op(0), "unlike", [equal(op(0), ZERO), equal(("special", "mode"), op(1))], modes=("system",))
        self.check(("special", "mode"), op(0), None)

    def test_same_operands(self):
        self.check(op(0), op(1), "equal", [same(0, 1)])
        self.check(op(0), op(2), "equal", [same(0, 1), same(1, 2)])
        self.check(op(0), op(1), None, [same(0, 1, "no")])
        self.check(op(1), op(2), None, [same(0, 1)])
        self.check(inc(op(0)), inc(op(1)), "equal", [same(0, 1)])

    def test_told_equal(self):
        self.check(op(0), PC, "equal", [equal(op(0), PC)])
        self.check(op(0), ("cell", 0), "equal", [equal(PC, op(0)), equal(PC, ("cell", 0))])
        self.check(op(0), op(2), "equal", [same(0, 1), equal(("special", "was"), op(1)), equal(op(2), ("special", "was"))])
        self.check(op(0), op(1), None, [equal(op(0), PC), equal(op(1), ZERO)])

    def test_primitives_of_equal_arguments(self):
        branch = [equal(op(0), op(1)), equal(PC, ("cell", 0))]
        self.check(plus(op(0), PC), plus(op(1), ("cell", 0)), "equal", branch)
        self.check(plus(op(0), PC), plus(("cell", 0), op(1)), None, branch)
        self.check(inc(inc(plus(op(0), ZERO))), inc(inc(plus(op(1), ("box", "mode")))), "equal", branch)
        self.check(inc(op(0)), ("prim", "one", ()), None, branch)
        self.check(op(0), op(1), None, [equal(inc(op(0)), inc(op(1)))])

    def test_primitives_become_equal_behind_their_terms(self):
        for branch in (
            [equal(inc(op(0)), op(2)), equal(inc(op(1)), PC), equal(op(0), op(1))],
            [equal(op(0), op(1)), equal(inc(op(0)), op(2)), equal(inc(op(1)), PC)],
            [equal(inc(op(1)), PC), equal(op(0), op(1)), equal(inc(op(0)), op(2))],
        ):
            self.check(op(2), PC, "equal", branch)
        # inc(a) = a makes all of them equal; inc of inc of inc of a, met first, follows in several rounds.
        branch = [equal(inc(inc(inc(op(0)))), op(1)), equal(inc(inc(op(0))), op(2)), equal(inc(op(0)), op(0))]
        self.check(op(1), op(2), "equal", branch)
        self.check(op(1), op(0), "equal", branch)

    def test_told_unlike(self):
        self.check(op(0), PC, "unlike", [equal(op(0), PC, "no")])
        self.check(op(0), op(1), "unlike", [equal(op(0), PC), equal(op(2), op(1)), equal(PC, op(2), "no")])
        self.check(op(0), op(1), "unlike", [equal(PC, op(2), "no"), equal(op(0), PC), equal(op(2), op(1))])
        self.check(op(0), ZERO, None, [equal(op(0), PC, "no"), equal(PC, ZERO, "no")])
        self.check(inc(op(0)), inc(PC), None, [equal(op(0), PC, "no")])
        self.check(op(0), op(1), None, [equal(inc(op(0)), inc(op(1)), "no")])

    def test_the_next_address(self):
        self.check(PC, NEXT, "unlike")
        self.check(op(0), op(1), "unlike", [equal(op(0), PC), equal(NEXT, op(1))])
        self.check(op(0), NEXT, "unlike", [equal(op(0), PC)])
        self.check(NEXT, inc(PC), None)

    def test_cells_and_rights_tell_nothing_of_words(self):
        branch = [allowed(op(0), "r"), allowed(op(1), "r", "no")]
        self.check(op(0), op(1), None, branch)
        branch = [allowed(op(0), "r"), cell(op(0)), allowed(op(1), "r"), cell(op(1))]
        self.check(op(0), op(1), None, branch)
        self.check(("cell", 1), ("cell", 2), None, branch)
        self.check(op(0), PC, None, [allowed(op(0), "r"), cell(op(0), 0)])


class Impossible(unittest.TestCase):
    def check(self, told, branch, book=BOOK, modes=MODES, name="go"):
        """Whether no question stands at a branch, though it is possible one answer earlier."""
        for mode in modes:
            for question in (("equal", ZERO, ZERO), ("allowed", PC, "r")):
                self.assertIs(stands(book, name, mode, branch, question), not told, (mode, branch))
                self.assertIs(stands(book, name, mode, branch[:-1], question), True, (mode, branch))
            if told:
                with self.assertRaises(BadPaper):
                    answers(book, name, mode, branch, ("equal", ZERO, ZERO))

    def test_equal_and_unlike(self):
        self.check(True, [equal(op(0), op(1)), equal(op(1), op(0), "no")])
        self.check(True, [equal(op(0), op(1), "no"), equal(op(0), PC), equal(op(1), PC)])
        self.check(True, [equal(op(0), op(0), "no")])
        self.check(True, [equal(inc(op(0)), inc(op(1)), "no"), same(0, 1)])
        self.check(True, [equal(PC, NEXT)])
        self.check(True, [equal(op(0), PC), equal(op(0), NEXT)])
        self.check(True, [equal(("box", "mode"), ZERO, "no")])
        self.check(True, [equal(("special", "mode"), ZERO)], modes=("system",))
        self.check(False, [equal(("special", "mode"), ZERO)], modes=("user",))
        self.check(True, [equal(("special", "mode"), ZERO, "no")], modes=("user",))
        self.check(False, [equal(("special", "mode"), ZERO, "no")], modes=("system",))
        self.check(False, [equal(op(0), op(1)), equal(op(1), op(2), "no")])
        self.check(False, [equal(inc(PC), PC)])

    def test_answers_of_same_that_do_not_fit(self):
        self.check(True, [same(0, 1), same(0, 1, "no")])
        self.check(True, [same(0, 1, "no"), same(0, 1)])
        self.check(True, [same(0, 1), same(1, 2), same(0, 2, "no")])
        self.check(True, [same(0, 2), same(0, 1, "no"), same(1, 2)])
        self.check(True, [same(0, 2), same(1, 2), same(0, 1, "no")])
        self.check(False, [same(0, 1), same(1, 2), same(0, 2)])
        self.check(False, [same(0, 1), same(1, 2, "no"), same(0, 2, "no")])
        self.check(False, [same(0, 1, "no"), equal(op(0), op(1))])
        self.check(False, [same(0, 1, "no"), same(1, 2, "no"), same(0, 2, "no")])
        self.check(False, [same(0, 1, "no"), same(1, 2, "no"), same(0, 2, "no"), same(0, 1, "no")])

    def test_more_registers_than_the_book_has(self):
        rows = (("move", A, B), ("move", A, C))
        for registers in (1, 2, 3):
            book = Book(registers, PRIMITIVES, ["oops"], PORTS, [("go", 4, rows, rows)])
            self.check(registers < 2, [same(0, 1, "no")], book)
            if registers > 1:
                self.check(False, [same(0, 1, "no"), same(0, 2, "no")], book)
                self.check(registers < 3, [same(0, 1, "no"), same(0, 2, "no"), same(1, 2, "no")], book)
                self.check(False, [same(1, 3, "no"), same(0, 3, "no"), same(0, 1)], book)
                self.check(registers < 3, [same(2, 3, "no"), same(0, 3, "no"), same(0, 2, "no")], book)
        full = [same(i, j, "no") for i in range(4) for j in range(i + 1, 4)]
        self.check(True, full, Book(3, PRIMITIVES, ["oops"], PORTS, [("go", 4, rows, rows)]))
        self.check(False, full, Book(4, PRIMITIVES, ["oops"], PORTS, [("go", 4, rows, rows)]))
        self.check(False, [same(0, 1)], Book(1, PRIMITIVES, ["oops"], PORTS, [("go", 4, rows, rows)]))

    def test_answers_of_same_for_all_ways_to_tell_registers(self):
        rows = (("move", A, B),)
        pairs = [(0, 1), (0, 2), (1, 2), (0, 3), (1, 3), (2, 3)]
        for registers in (1, 2, 3):
            book = Book(registers, PRIMITIVES, ["oops"], PORTS, [("go", 4, rows, rows)])
            ways = list(itertools.product(range(registers), repeat=4))
            for told in itertools.product((None, "yes", "no"), repeat=len(pairs)):
                asked = [(pair, answer) for pair, answer in zip(pairs, told) if answer is not None]
                can_be = any(all((way[i] == way[j]) == (answer == "yes") for (i, j), answer in asked) for way in ways)
                branch = [same(i, j, answer) for (i, j), answer in asked]
                self.assertIs(stands(book, "go", "user", branch, ("equal", ZERO, ZERO)), can_be, (registers, branch))

    def test_different_rights_of_equal_terms(self):
        for right in ("r", "w"):
            self.check(True, [allowed(op(0), right), allowed(op(0), right, "no")])
            self.check(True, [allowed(op(0), right), allowed(op(1), right, "no"), equal(op(0), op(1))])
            self.check(True, [same(0, 1), allowed(op(0), right, "no"), allowed(op(1), right)])
            self.check(True, [equal(op(0), op(1)), allowed(inc(op(0)), right), allowed(inc(op(1)), right, "no")])
            self.check(False, [allowed(op(0), right), allowed(op(1), right, "no"), equal(op(0), op(1), "no")])
            self.check(False, [allowed(op(0), right), allowed(op(1), right), equal(op(0), op(1))])
        self.check(False, [allowed(op(0), "r"), allowed(op(0), "w", "no")])
        self.check(True, [allowed(ZERO, "r"), allowed(("box", "mode"), "r", "no")])

    def test_different_cells_of_equal_terms(self):
        start = [allowed(op(0), "r"), allowed(op(1), "w"), cell(op(0))]
        self.check(True, start + [cell(op(0), 0)])
        self.check(True, start + [cell(op(0), "further")])
        self.check(False, start + [cell(op(0), 1)])
        self.check(True, start + [cell(op(1)), equal(op(0), op(1))])
        self.check(True, start + [cell(op(1), 0), equal(op(0), op(1))])
        self.check(False, start + [cell(op(1), 1), equal(op(0), op(1))])
        self.check(True, start + [equal(op(0), op(1)), cell(op(1), "further")])
        self.check(False, start + [equal(op(0), op(1), "no"), cell(op(1), "further")])

    def test_the_pc_comes_to_cell_0(self):
        self.check(True, [allowed(PC, "r"), cell(PC)])
        self.check(False, [allowed(PC, "r"), cell(PC, 0)])
        self.check(True, [allowed(op(0), "r"), cell(op(0)), equal(op(0), PC)])
        self.check(True, [equal(op(0), PC), allowed(op(0), "r"), cell(op(0))])
        self.check(False, [equal(op(0), PC), allowed(op(0), "r"), cell(op(0), 0)])

    def test_the_next_address_comes_to_another_cell(self):
        self.check(True, [allowed(NEXT, "r"), cell(NEXT, 0)])
        self.check(False, [allowed(NEXT, "r"), cell(NEXT)])
        self.check(True, [allowed(op(0), "r"), cell(op(0), 0), equal(op(0), NEXT)])
        self.check(True, [equal(op(1), NEXT), equal(op(0), op(1)), allowed(op(0), "r"), cell(op(0), 0)])
        self.check(False, [allowed(op(0), "r"), cell(op(0), 0), equal(op(0), NEXT, "no")])

    def test_the_place_0_and_pages_apart(self):
        apart = [allowed(PC, "r"), allowed(NEXT, "r", "no")]
        self.check(False, apart)
        self.check(True, [equal(ZERO, PC)] + apart)
        self.check(True, apart + [equal(ZERO, PC)])
        self.check(True, apart + [equal(op(0), PC), equal(op(0), ("box", "mode"))])
        self.check(True, apart + [allowed(ZERO, "r"), cell(ZERO, 0)])
        self.check(False, apart + [allowed(ZERO, "r"), cell(ZERO)])
        self.check(True, apart + [equal(op(0), ZERO), allowed(op(0), "w"), cell(op(0), 0)])
        self.check(True, [allowed(op(0), "r"), cell(op(0), 0), equal(op(0), ZERO)] + apart)
        self.check(False, apart + [allowed(op(0), "r"), cell(op(0), 0)])
        self.check(True, apart + [equal(("special", "mode"), PC)], modes=("user",))
        self.check(False, apart + [equal(("special", "mode"), PC)], modes=("system",))

    def test_pages_apart_by_any_right(self):
        for right, other in (("r", "w"), ("w", "r")):
            zero = [equal(ZERO, PC)]
            self.check(True, zero + [allowed(PC, right, "no"), allowed(NEXT, right)])
            self.check(False, zero + [allowed(PC, right), allowed(NEXT, right)])
            self.check(False, zero + [allowed(PC, right), allowed(NEXT, other, "no")])
            self.check(False, zero + [allowed(PC, right, "no"), allowed(NEXT, other)])
            both = zero + [allowed(PC, other), allowed(NEXT, other), allowed(PC, right)]
            self.check(True, both + [allowed(NEXT, right, "no")])
            self.check(False, both + [allowed(op(1), right, "no")])
            self.check(True, both + [equal(op(1), NEXT), allowed(op(1), right, "no")])
            self.check(True, zero + [allowed(op(0), right), allowed(NEXT, right, "no"), equal(op(0), PC)])

    def test_the_next_address_may_be_zero(self):
        self.check(False, [equal(NEXT, ZERO), allowed(PC, "r"), allowed(NEXT, "r", "no")])
        self.check(True, [equal(NEXT, ZERO), equal(PC, ZERO)])


class Start:
    """A drawn start, to answer questions for it."""

    def __init__(self, draw, book, mode):
        code = tuple(draw.randrange(3) for _ in range(3))
        self.meaning = one_meaning(book, code)
        self.draw = draw
        words = [[draw.choice((1, 2, 3, 4, 5, 6, 7, 8, 8)) for _ in range(4)] for _ in range(3)]
        specials = {name: draw.choice((0, 1, 2)) for name in NAMES}
        specials["mode"] = draw.choice((1, 2, 3)) if mode == "system" else 0
        self.machine = made(self.meaning, frames=words, registers=[draw.randrange(16) for _ in range(3)],
                            specials=specials, pc=draw.choice((0, 0, 3, 4, 7, 8, draw.randrange(16))))
        self.box = some_specials(**{name: draw.choice((0, 1, 2)) for name in NAMES if name != "mode"})
        self.answers = {key: [draw.randrange(4) for _ in range(3)] for key in (("box", "tty"), ("box", "net"),
                                                                                 ("world", "tty"), ("world", "net"))}
        self.operands = code
        self.cells = [self.place(self.machine.pc(), "x")]

    def place(self, address, right):
        """The place to which an address comes, or None."""
        machine = self.machine
        return translated(self.meaning, machine.frames(), machine.special("table"), machine.is_user(), address, right)

    def word(self, term):
        """The word for which a term stands."""
        kind = term[0]
        if kind == "prim":
            return TABLES[term[1]][tuple(self.word(arg) for arg in term[2])]
        if kind == "answer":
            return self.answers[term[1:3]][term[3]]
        pc = self.machine.pc()
        told = {"zero": 0, "pc": pc, "next": (pc + 1) % 16}
        if kind in told:
            return told[kind]
        if kind == "operand":
            return self.machine.registers()[self.operands[term[1]]]
        if kind == "cell":
            frame, place = self.cells[term[1]]
            return self.machine.word(frame, place)
        return self.machine.special(term[1]) if kind == "special" else self.box[term[1]]

    def answer(self, question):
        """The answer that the start follows."""
        kind = question[0]
        if kind == "same":
            is_so = self.operands[question[1]] == self.operands[question[2]]
        elif kind == "equal":
            is_so = self.word(question[1]) == self.word(question[2])
        elif kind == "allowed":
            is_so = self.place(self.word(question[1]), question[2]) is not None
        else:
            address = self.word(question[1])
            place = self.place(address, "r") or self.place(address, "w")
            if place in self.cells:
                return self.cells.index(place)
            self.cells.append(place)
            return "further"
        return "yes" if is_so else "no"

    def term(self, depth=2):
        """A drawn term, which may occur."""
        draw = self.draw
        kind = draw.choice(("zero", "pc", "next", "operand", "operand", "special", "box", "cell", "answer", "prim"))
        if kind == "prim" and depth > 0:
            name, arity = draw.choice(PRIMITIVES)
            return ("prim", name, tuple(self.term(depth - 1) for _ in range(arity)))
        if kind == "operand":
            return op(draw.randrange(3))
        if kind in ("special", "box"):
            return (kind, draw.choice(("mode", "table", "was")))
        if kind == "cell":
            return (kind, draw.randrange(len(self.cells)))
        if kind == "answer":
            return (kind, draw.choice(("box", "world")), "net", 0)
        return (kind,) if kind != "prim" else ZERO

    def question(self):
        """A drawn question, which may not stand."""
        kind = self.draw.choice(("same", "equal", "equal", "allowed", "allowed", "cell", "cell"))
        if kind == "same":
            return (kind, *self.draw.choice(((0, 1), (0, 2), (1, 2))))
        if kind == "equal":
            return (kind, self.term(), self.term())
        return (kind, self.term(), self.draw.choice("rw")) if kind == "allowed" else (kind, self.term())


class Drawn(unittest.TestCase):
    def test_the_branch_that_a_start_follows_is_never_impossible(self):
        draw = random.Random(64)
        seen = {"equal": 0, "unlike": 0, None: 0}
        for _ in range(400):
            mode = draw.choice(MODES)
            start = Start(draw, BOOK, mode)
            if start.cells == [None]:
                continue
            branch = []
            for _ in range(25):
                question = start.question()
                self.assertTrue(stands(BOOK, "go", mode, branch, ("equal", ZERO, PC)))
                if stands(BOOK, "go", mode, branch, question):
                    told = answers(BOOK, "go", mode, branch, question)
                    answer = start.answer(question)
                    self.assertIn(answer, told)
                    branch.append((question, answer))
                elif question[0] != "cell":
                    self.fail(question)
            for _ in range(25):
                term, other = start.term(), start.term()
                told = compared(BOOK, "go", mode, branch, term, other)
                seen[told] += 1
                if told is not None:
                    self.assertEqual(start.word(term) == start.word(other), told == "equal", (branch, term, other))
        self.assertTrue(all(many > 100 for many in seen.values()), seen)

    def closed(self, mode, branch, universe):
        """The pairs of terms of a universe that are equal, by the words of S6.4, found round by round."""
        pairs = {(term, term) for term in universe} | {(("box", "mode"), ZERO)}
        if mode == "user":
            pairs.add((("special", "mode"), ZERO))
        for question, answer in branch:
            if question[0] == "same" and answer == "yes":
                pairs.add((op(question[1]), op(question[2])))
            if question[0] == "equal" and answer == "yes":
                pairs.add(question[1:])
        prims = [term for term in universe if term[0] == "prim"]
        while True:
            more = pairs | {(other, one) for one, other in pairs}
            more |= {(one, last) for one, other in more for again, last in more if other == again}
            for one in prims:
                for other in prims:
                    args = zip(one[2], other[2])
                    if one[1] == other[1] and all(pair in more for pair in args):
                        more.add((one, other))
            if more == pairs:
                return pairs
            pairs = more

    def test_equal_terms_are_those_of_the_closure(self):
        draw = random.Random(65)
        base = [ZERO, PC, NEXT, op(0), op(1), ("special", "mode"), ("box", "mode"), ("prim", "one", ())]
        for _ in range(60):
            mode = draw.choice(MODES)
            extra = [inc(draw.choice(base)) for _ in range(3)] + [plus(*draw.choices(base, k=2)) for _ in range(2)]
            extra += [inc(draw.choice(extra)) for _ in range(2)]
            universe = list(dict.fromkeys(base + extra))
            branch = []
            for _ in range(6):
                pair = (("equal", draw.choice(universe), draw.choice(universe)), draw.choice(("yes", "yes", "no")))
                if stands(BOOK, "go", mode, branch + [pair], ("equal", ZERO, ZERO)):
                    branch.append(pair)
            equal_pairs = self.closed(mode, branch, universe)
            unlike = [question[1:] for question, answer in branch if answer == "no"] + [(PC, NEXT)]
            unlike += [(("special", "mode"), ZERO)] if mode == "system" else []
            for one in universe:
                for other in universe:
                    told = compared(BOOK, "go", mode, branch, one, other)
                    apart = any(
                        (one, a) in equal_pairs and (other, b) in equal_pairs
                        for t, u in unlike
                        for a, b in ((t, u), (u, t))
                    )
                    due = "equal" if (one, other) in equal_pairs else "unlike" if apart else None
                    self.assertEqual(told, due, (branch, one, other))


if __name__ == "__main__":
    unittest.main()
