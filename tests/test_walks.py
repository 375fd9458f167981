"""Walks and verdicts: S6.5 and S6.6, and the interface of worldsalone/walks.py."""

import random
import unittest

from asking import MODES, NEXT, O0, O1, O2, PC, ZERO, allowed, cell, equal, inc
from drawing import drawn_book, drawn_question
from samples import A, B, C, ODD, T0, T1, T2, T3, one_book
from termmodel import Branch
from worldsalone.books import Book
from worldsalone.errors import BadPaper, UnknownName
from worldsalone.mappings import Mapping
from worldsalone.questions import answers, stands
from worldsalone.walks import verdict

TRAP = (("trap", "oops"),)
# What the walks need of three operands, where each tells a register of its own.
APART = ((("same", 0, 1), "no"), (("same", 0, 2), "no"), (("same", 1, 2), "no"))


def may(term, right, answer="further"):
    """The two pairs of an access that comes to a cell."""
    return (allowed(term, right), cell(term, answer))


class Verdicts(unittest.TestCase):
    def check(self, told, user, system=None, branch=(), operands=1, modes=("system",)):
        """The verdict at a branch, in system mode if nothing else is said."""
        book = one_book(tuple(user), tuple(user if system is None else system), operands)
        for mode in modes:
            self.assertEqual(verdict(book, "go", mode, list(branch)), told, (mode, branch))
            self.assertEqual(verdict(book, "go", mode, tuple(branch)), told, (mode, branch))
            self.assertEqual(Branch(book, "go", mode, branch).judged()[0], told)


class Beginning(Verdicts):
    def test_each_two_operands_are_asked_about_also_without_rows(self):
        for rows in ((), (("move", A, A),), (("goto", B),)):
            for k in range(3):
                branch = [pair for j, pair in enumerate(APART) if j != k]
                self.check("open", rows, branch=branch, operands=3, modes=MODES)
            self.check("right", rows, branch=APART, operands=3, modes=MODES)
            self.check("right", rows, branch=APART[::-1], operands=3, modes=MODES)
        self.check("right", (), operands=0, modes=MODES)
        self.check("right", (), operands=1, modes=MODES)
        self.check("open", (), operands=2, modes=MODES)

    def test_the_answer_itself_is_needed(self):
        branch = [(("same", 0, 1), "yes"), (("same", 1, 2), "yes")]
        self.check("open", (), branch=branch, operands=3)
        self.check("right", (), branch=branch + [(("same", 0, 2), "yes")], operands=3)
        branch = [(("same", 0, 1), "yes"), (("same", 1, 2), "no")]
        self.check("open", (), branch=branch, operands=3)
        self.check("right", (), branch=branch + [(("same", 0, 2), "no")], operands=3)

    def test_also_ahead_of_a_trap_row(self):
        self.check("open", TRAP, operands=2, modes=MODES)
        self.check("right", TRAP, branch=[(("same", 0, 1), "no")], operands=2, modes=MODES)

    def test_operands_that_tell_one_register(self):
        user, system = (("move", A, C), ("move", B, A)), (("move", B, C),)
        for told, same in (("right", "yes"), ("open", "no")):
            branch = [(("same", 0, 1), same), (("same", 0, 2), "no"), (("same", 1, 2), "no")]
            self.check(told, user, system, branch, operands=3)


class Ifs(Verdicts):
    def test_whether_it_is_zero(self):
        rows = (("if", A, (("move", A, A),), ()),)
        self.check("open", rows, modes=MODES)
        self.check("right", rows, branch=[equal(O0, ZERO)], modes=MODES)
        self.check("right", rows, branch=[equal(ZERO, O0, "no")], modes=MODES)
        self.check("open", rows, branch=[equal(O0, PC)], modes=MODES)
        self.check("open", rows, branch=[equal(O0, PC, "no")], modes=MODES)
        self.check("right", rows, branch=[equal(O0, PC), equal(PC, ZERO, "no")], modes=MODES)

    def test_which_rows_are_carried_out(self):
        user = (("if", A, (("trap", "oops"),), ()),)
        self.check("right", user, (("goto", A),), [equal(O0, ZERO, "no")])
        self.check("open", user, (("goto", A),), [equal(O0, ZERO)])
        self.check("open", (("if", A, (), (("goto", A),)),), (), [equal(O0, ZERO)])
        self.check("right", (("if", A, (), (("goto", A),)),), (), [equal(O0, ZERO, "no")])

    def test_what_is_known_of_modes(self):
        rows = (("get", T0, "mode"), ("if", T0, TRAP, ()))
        self.check("wrong", rows, modes=("system",))
        self.check("right", rows, modes=("user",))
        self.check("right", (), (("get", T0, "mode"), ("if", T0, (), TRAP)))

    def test_temporaries_are_zero_at_first(self):
        for ref in (T0, T1, T2, ("tmp", 3)):
            self.check("right", (("if", ref, (("load", A, A),), ()),), (), modes=MODES)
        self.check("right", (("move", A, T0),), (("move", A, T1),))
        self.check("open", (("move", A, T0),), ())
        self.check("right", (("move", A, T0),), (), [equal(O0, ZERO)])
        self.check("right", (("move", T0, A), ("move", A, T1), ("move", A, T0)), (), modes=MODES)

    def test_inner_ifs(self):
        rows = (("if", A, (("if", B, (("trap", "oops"),), ()),), (("goto", B),)),)
        branch = [(("same", 0, 1), "no")]
        self.check("open", rows, (), branch, operands=2)
        self.check("open", rows, (), branch + [equal(O0, ZERO, "no")], operands=2)
        self.check("right", rows, (), branch + [equal(O0, ZERO, "no"), equal(O1, ZERO)], operands=2)
        self.check("right", rows, (), branch + [equal(O0, ZERO, "no"), equal(O1, ZERO, "no")], operands=2)
        self.check("open", rows, (), branch + [equal(O0, ZERO)], operands=2)


class Touches(Verdicts):
    def test_a_load_and_a_store_need_a_right_and_a_cell(self):
        for rows, right, other in (((("load", T0, A),), "r", "w"), ((("store", A, A),), "w", "r")):
            self.check("open", rows, modes=MODES)
            self.check("open", rows, branch=[allowed(O0, other)], modes=MODES)
            self.check("open", rows, branch=[allowed(O0, right)], modes=MODES)
            self.check("right", rows, branch=may(O0, right), modes=MODES)
            self.check("right", rows, branch=may(O0, right, 0), modes=MODES)
            self.check("right", rows, branch=[*may(O0, other), allowed(O0, right)], modes=MODES)
            self.check("open", rows, branch=may(O0, other), modes=MODES)
            self.check("right", rows, branch=[allowed(O0, right, "no")], modes=MODES)

    def test_an_answer_for_an_equal_term_is_enough(self):
        rows = (("load", T0, A),)
        self.check("right", rows, branch=[*may(PC, "r", 0), equal(PC, O0)])
        self.check("right", rows, branch=[equal(O0, ("special", "was")), *may(("special", "was"), "r")])
        self.check("right", rows, branch=[allowed(("cell", 0), "r", "no"), equal(O0, ("cell", 0))])
        self.check("open", rows, branch=[*may(("special", "was"), "r"), equal(O0, ("special", "was"), "no")])
        twice = (("load", T0, A), ("move", B, A), ("load", T1, B))
        self.check("right", twice, branch=[(("same", 0, 1), "no"), *may(O0, "r")], operands=2)

    def test_the_pc_comes_to_cell_0(self):
        self.check("open", (("load", T0, A),), branch=[equal(O0, PC)])
        self.check("right", (("load", T0, A),), branch=[equal(O0, PC), allowed(O0, "r")])
        self.check("right", (("load", A, A),), (), [equal(O0, PC), allowed(PC, "r"), equal(("cell", 0), PC)])
        self.check("wrong", (("load", A, A),), (), [equal(O0, PC), allowed(PC, "r"), equal(("cell", 0), PC, "no")])

    def test_what_is_loaded_is_the_word_of_the_cell(self):
        self.check("right", (("load", A, A),), branch=may(O0, "r"))
        self.check("open", (("load", A, A),), (), branch=may(O0, "r"))
        self.check("right", (("load", A, A),), (), branch=[*may(O0, "r"), equal(("cell", 1), O0)])
        self.check("right", (("load", A, A),), (), branch=[*may(O0, "r", 0), equal(("cell", 0), O0)])

    def test_what_was_stored_is_loaded_later(self):
        user = (("store", A, T0), ("load", T1, A), ("move", A, T1))
        system = (("store", A, T0), ("move", A, T0))
        branch = [*may(O0, "w"), allowed(O0, "r")]
        self.check("right", user, system, branch)
        self.check("open", user, (("store", A, T0), ("load", A, A), ("prim", A, "inc", (A,))), branch)
        branch = [(("same", 0, 1), "no"), *may(O0, "w"), allowed(O1, "r")]
        user = (("store", A, T0), ("load", B, B))
        self.check("right", user, (("store", A, T0), ("move", B, T0)), branch + [cell(O1, 1)], 2)
        self.check("open", user, (("store", A, T0), ("move", B, T0)), branch + [cell(O1)], 2)
        self.check("open", user, (("store", A, T0), ("move", B, T0)), branch + [cell(O1, 0)], 2)

    def test_the_last_word_that_was_stored_counts(self):
        branch = [*may(O0, "w"), equal(O0, ZERO, "no")]
        self.check("right", (("store", A, A), ("store", A, T0)), (("store", A, T0),), branch)
        self.check("wrong", (("store", A, T0), ("store", A, A)), (("store", A, T0),), branch)


class Specials(Verdicts):
    def test_what_was_put_is_got_later(self):
        user = (("put", "was", A), ("get", T0, "was"), ("move", A, T0))
        self.check("right", user, (), [equal(O0, ("box", "was"))])
        self.check("right", (), user, [equal(O0, ("special", "was"))])
        self.check("wrong", user, (), [equal(O0, ("box", "was"), "no")])
        self.check("open", user, ())
        self.check("right", (("put", "was", T1), ("get", A, "was"), ("get", T0, "back"), ("put", "was", T0)), (("move", A, T0),),
                   [equal(("box", "back"), ("box", "was"))])

    def test_the_two_walks_have_specials_of_their_own(self):
        rows = (("get", A, "was"),)
        self.check("open", rows, modes=MODES)
        self.check("right", rows, branch=[equal(("box", "was"), ("special", "was"))], modes=MODES)
        self.check("wrong", rows, branch=[equal(("special", "was"), ("box", "was"), "no")], modes=MODES)
        self.check("open", rows, branch=[equal(("box", "back"), ("special", "was"))], modes=MODES)
        self.check("right", (("get", A, "mode"),), modes=("user",))
        self.check("wrong", (("get", A, "mode"),), modes=("system",))

    def test_specials_that_are_put_back(self):
        for name in ("mode", "table", "timer", "fault"):
            back = (("get", T0, name), ("put", name, A), ("put", name, T0))
            self.check("right", back, modes=MODES)
            self.check("right", back, (), modes=MODES)
            self.check("right", (), back)
            self.check("open", (), (("put", name, A),))
            self.check("right", (), (("put", name, A),), [equal(O0, ("special", name))])
            self.check("wrong", (), (("put", name, A),), [equal(O0, ("special", name), "no")])
            self.check("open", (("put", name, A),), ())
            self.check("right", (("put", name, A),), (), [equal(O0, ("box", name))])
            self.check("wrong", (("put", name, A),), (), [equal(O0, ("box", name), "no")])

    def test_both_may_put_the_same_word(self):
        rows = (("put", "was", A),)
        self.check("open", rows)
        self.check("open", rows, branch=[equal(O0, ("box", "was"))])
        self.check("right", rows, branch=[equal(O0, ("box", "was")), equal(O0, ("special", "was"))])
        self.check("wrong", rows, branch=[equal(O0, ("box", "was")), equal(O0, ("special", "was"), "no")])


class Ends(Verdicts):
    def test_a_trap_row_of_the_box_walk_is_right_whatever_the_world_walk_does(self):
        for system in ((), TRAP, (("load", A, A),), (("if", A, (), ()),), (("in", A, "tty"),), (("out", "tty", A),)):
            self.check("right", TRAP, system, modes=MODES)
            self.check("right", (("move", A, T0), ("out", "tty", A), ("trap", "help"), ("load", A, A)), system, modes=MODES)

    def test_a_trap_row_of_the_world_walk_alone_is_wrong(self):
        self.check("wrong", (), TRAP)
        self.check("wrong", (("load", A, A),), TRAP, [allowed(O0, "r", "no")])
        self.check("open", (("load", A, A),), TRAP)

    def test_both_refused(self):
        user, system = (("load", A, A),), (("store", B, A),)
        branch = [(("same", 0, 1), "no"), allowed(O0, "r", "no")]
        self.check("open", user, system, branch, 2)
        branch += [allowed(O1, "w", "no")]
        self.check("open", user, system, branch, 2)
        self.check("right", user, system, branch + [equal(O0, O1)], 2)
        self.check("wrong", user, system, branch + [equal(O0, O1, "no")], 2)
        self.check("right", user, (("store", A, A),), [allowed(O0, "r", "no"), allowed(O0, "w", "no")])

    def test_what_was_done_ahead_of_a_refusal_does_not_count(self):
        user = (("in", T0, "tty"), ("put", "was", A), ("out", "tty", A), ("goto", A), ("load", T0, A))
        self.check("right", user, (("load", T0, A),), [allowed(O0, "r", "no")])
        self.check("right", (("load", T0, A),), user, [allowed(O0, "r", "no")])
        self.check("right", (("move", T1, A), ("move", A, T0), ("load", T1, T1)), (("load", T0, A),), [allowed(O0, "r", "no")])

    def test_one_refused_and_one_done(self):
        rows = (("load", T0, A),)
        self.check("wrong", rows, (), [allowed(O0, "r", "no")])
        self.check("wrong", (), rows, [allowed(O0, "r", "no")])
        self.check("right", rows, (), may(O0, "r"))
        self.check("wrong", rows, TRAP, may(O0, "r"))

    def test_an_in_or_an_out_that_was_carried_out_is_wrong(self):
        for row in (("in", T0, "tty"), ("in", T1, "net"), ("out", "tty", A), ("out", "net", T0)):
            self.check("wrong", (row,), (row,), modes=MODES)
            self.check("wrong", (row,), ())
            self.check("wrong", (), (row,))
            inner = (("if", A, (), (row,)),)
            self.check("open", inner, modes=MODES)
            self.check("wrong", inner, branch=[equal(O0, ZERO)], modes=MODES)
            self.check("right", inner, branch=[equal(O0, ZERO, "no")], modes=MODES)

    def test_answers_have_terms_of_their_own(self):
        first, second = (("answer", "box", "tty", k) for k in range(2))
        rows = (("in", T0, "tty"), ("in", T1, "tty"), ("if", T1, TRAP, ()))
        self.check("open", rows, branch=[equal(first, ZERO, "no")])
        self.check("right", rows, branch=[equal(second, ZERO, "no")])
        self.check("wrong", rows, branch=[equal(second, ZERO), equal(("answer", "world", "tty", 1), ZERO)])
        self.check("wrong", rows, branch=[equal(second, ZERO), equal(("answer", "world", "tty", 1), ZERO, "no")])
        self.check("open", rows, branch=[equal(second, ZERO), equal(("answer", "world", "tty", 0), ZERO)])
        mixed = (("in", T0, "net"), ("in", T1, "tty"), ("if", T1, TRAP, ()))
        self.check("right", mixed, branch=[equal(first, ZERO, "no")])


class Agreement(Verdicts):
    def test_pairs_that_are_equal_unlike_or_neither(self):
        user, system = (("move", A, B),), (("prim", A, "inc", (A,)),)
        branch = [(("same", 0, 1), "no")]
        self.check("open", user, system, branch, 2)
        self.check("right", user, system, branch + [equal(O1, inc(O0))], 2)
        self.check("wrong", user, system, branch + [equal(O1, inc(O0), "no")], 2)
        self.check("right", user, system, branch + [equal(O1, PC), equal(PC, inc(O0))], 2)

    def test_primitives_of_equal_arguments(self):
        user, system = (("prim", A, "sum", (A, B)),), (("prim", A, "sum", (B, A)),)
        branch = [(("same", 0, 1), "no")]
        self.check("open", user, system, branch, 2)
        self.check("right", user, system, branch + [equal(O0, O1)], 2)
        self.check("right", user, system, [(("same", 0, 1), "yes")], 2)
        self.check("open", user, system, branch + [equal(O0, O1, "no")], 2)
        self.check("wrong", user, system, branch + [equal(("prim", "sum", (O1, O0)), ("prim", "sum", (O0, O1)), "no")], 2)

    def test_an_unlike_pair_counts_ahead_of_one_that_is_neither(self):
        user, system = (("move", A, C), ("goto", B)), (("goto", C),)
        branch = [*APART, equal(O1, O2, "no")]
        self.check("wrong", user, system, branch, 3)
        self.check("open", user, system, APART, 3)
        self.check("open", user, system, [*APART, equal(O1, O2)], 3)
        self.check("right", user, system, [*APART, equal(O1, O2), equal(O0, O2)], 3)

    def test_the_next_pc(self):
        self.check("open", (("goto", A),), ())
        self.check("open", (), (("goto", A),))
        self.check("right", (("goto", A),), (), [equal(O0, NEXT)])
        self.check("right", (), (("goto", A),), [equal(O0, NEXT)])
        self.check("wrong", (("goto", A),), (), [equal(O0, PC)])
        self.check("wrong", (), (("goto", A),), [equal(O0, NEXT, "no")])
        self.check("right", (("goto", T0), ("goto", A)), (("goto", A), ("goto", T0), ("goto", A)))
        self.check("open", (("goto", A), ("goto", T0)), (("goto", A),))
        self.check("right", (("goto", A), ("move", A, T0)), (("move", T1, A), ("move", A, T0), ("goto", T1)))

    def test_a_cell_that_one_walk_alone_stored_in(self):
        rows = (("store", A, B),)
        branch = [(("same", 0, 1), "no"), *may(O0, "w")]
        for user, system in ((rows, ()), ((), rows)):
            self.check("open", user, system, branch, 2)
            self.check("right", user, system, branch + [equal(O1, ("cell", 1))], 2)
            self.check("wrong", user, system, branch + [equal(O1, ("cell", 1), "no")], 2)
            self.check("open", user, system, branch + [equal(O1, ("cell", 0))], 2)
        back = (("load", T0, A), ("store", A, B), ("store", A, T0))
        self.check("right", back, (), [*branch, allowed(O0, "r")], 2)
        self.check("right", (), back, [*branch, allowed(O0, "r")], 2)

    def test_cells_that_both_stored_in(self):
        user, system = (("store", A, B), ("store", B, A)), (("store", B, A), ("store", A, B))
        branch = [(("same", 0, 1), "no"), *may(O0, "w"), allowed(O1, "w")]
        self.check("right", user, system, branch + [cell(O1)], 2)
        self.check("right", user, system, branch + [cell(O1, 0)], 2)
        self.check("open", user, system, branch + [cell(O1, 1)], 2)
        self.check("wrong", user, system, branch + [cell(O1, 1), equal(O0, O1, "no")], 2)

    def test_each_operand_counts(self):
        for ref in (A, B, C):
            self.check("open", (("prim", ref, "inc", (ref,)),), (), APART, 3)
        self.check("right", (("prim", T0, "inc", (A,)),), (), APART, 3)
        swap = (("move", T0, A), ("move", A, B), ("move", B, T0))
        self.check("right", swap, (("move", T3, B), ("move", B, A), ("move", A, T3)), APART, 3)
        self.check("right", swap + swap, (), APART, 3)


class Impossible(Verdicts):
    def test_impossible_is_first(self):
        for rows in ((), TRAP, (("load", A, A),), (("out", "tty", A),)):
            self.check("impossible", rows, branch=[equal(PC, NEXT)], modes=MODES)
            self.check("impossible", rows, branch=[equal(O0, PC), equal(O0, PC, "no")], modes=MODES)
            self.check("impossible", rows, branch=[allowed(O0, "r"), allowed(O0, "r", "no")], modes=MODES)
            self.check("impossible", rows, branch=[allowed(PC, "r"), cell(PC)], modes=MODES)
        self.check("impossible", (), TRAP, [equal(("special", "mode"), ZERO)])

    def test_more_registers_than_there_are(self):
        for registers, told in ((1, "impossible"), (2, "right")):
            book = Book(registers, [], ["oops"], [], [("go", 2, (), ())])
            self.assertEqual(verdict(book, "go", "user", [(("same", 0, 1), "no")]), told)


class NoBranches(unittest.TestCase):
    BOOK = one_book((("load", A, B), ("in", T0, "tty")))

    def refused(self, branch):
        for mode in MODES:
            with self.assertRaises(BadPaper, msg=branch):
                verdict(self.BOOK, "go", mode, branch)

    def test_names_are_refused_first(self):
        for name in ODD + ("nope", "inc", "tty", ("go",), 0):
            for branch in ([], None, [None]):
                with self.assertRaises(UnknownName, msg=name) as caught:
                    verdict(self.BOOK, name, "user", branch)
                self.assertIs(caught.exception.name, name)

    def test_things_of_other_kinds(self):
        for thing in ODD + ("yes", {"same": 1}, 7, Mapping(), self.BOOK, {}, ((),)):
            if thing not in ([], ()):
                self.refused(thing)

    def test_pairs_that_are_none(self):
        good = (("same", 0, 1), "no")
        for thing in ODD + ("yes", list(good), (good,), good + (1,), good[:1], ("same", 0, 1), 7, ("same", "no"), good[0]):
            self.refused([thing])
            self.refused([good, thing])
            self.refused((thing, good))

    def test_questions_that_do_not_stand(self):
        for question in (("same", 1, 0), ("same", 0, 3), ("cell", O0), ("equal", O0, ("cell", 1)), ("allowed", O0, "x"),
                         ("equal", O0), ["same", 0, 1], None, ("answer", "box", "tty", 0), ("cell", ("operand", True))):
            for answer in ("yes", "no", 0, "further"):
                self.refused([(question, answer)])
        self.refused([allowed(O0, "r", "no"), cell(O0)])
        self.refused([allowed(O0, "r"), cell(O1)])
        self.refused([cell(O0), allowed(O0, "r")])

    def test_answers_that_are_none(self):
        for question in (("same", 0, 1), ("equal", O0, O1), ("allowed", O0, "w")):
            for answer in ODD + ("YES", "further", 0, 1, ("yes",), ["yes"], "yesno", self.BOOK):
                self.refused([(question, answer)])
        for answer in ODD + ("yes", "no", 1, 2, (0,), "0", 10 ** 39, "Further"):
            self.refused([allowed(O0, "r"), (("cell", O0), answer)])
        self.refused([*may(O0, "r"), allowed(O1, "r"), cell(O1, 2)])
        self.refused([*may(O0, "r"), allowed(O1, "r"), cell(O1, True)])
        self.refused([allowed(O0, "r"), cell(O0, False)])
        self.assertEqual(verdict(self.BOOK, "go", "user", [*may(O0, "r"), allowed(O1, "r"), cell(O1, 1)]), "open")

    def test_lists_that_go_on_behind_an_impossible_branch(self):
        gone = [equal(PC, NEXT)]
        self.assertEqual(verdict(self.BOOK, "go", "user", gone), "impossible")
        for pair in (equal(PC, NEXT), equal(O0, O1), (("same", 0, 1), "no"), allowed(O0, "r"), None):
            self.refused(gone + [pair])

    def test_the_branch_stays(self):
        branch = [(("same", 0, 1), "no"), *may(O1, "r")]
        kept = list(branch)
        verdict(self.BOOK, "go", "user", branch)
        self.assertEqual(branch, kept)


class Drawn(unittest.TestCase):
    def test_verdicts_against_walks_told_once_more(self):
        seen = dict.fromkeys(("open", "right", "wrong", "impossible"), 0)
        for seed in range(700):
            draw = random.Random(seed)
            book = drawn_book(draw)
            mode = draw.choice(MODES)
            operands = book.instruction("go")[1]
            branch = []
            for _ in range(25):
                model = Branch(book, "go", mode, branch)
                told, question = model.judged()
                self.assertEqual(verdict(book, "go", mode, branch), told, (seed, branch))
                seen[told] += 1
                if told == "impossible":
                    break
                if told != "open" or draw.random() < 0.3:
                    question = drawn_question(draw, operands, model.known)
                self.assertTrue(told != "open" or stands(book, "go", mode, branch, model.judged()[1]))
                if stands(book, "go", mode, branch, question):
                    given = answers(book, "go", mode, branch, question)
                    branch.append((question, draw.choice(given + given[:1])))
        self.assertTrue(all(many > 200 for many in seen.values()), seen)


if __name__ == "__main__":
    unittest.main()
