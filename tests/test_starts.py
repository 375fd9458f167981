"""Starts: S6.1, and the interface of worldsalone/starts.py."""

import copy
import unittest

from samples import A, B, CAUSES, ENTRIES, NAMES, ODD, PORTS, PRIMITIVES, T0, TABLES, made, one_book, one_meaning
from samples import some_specials, with_changes
from worldsalone.bare import Box
from worldsalone.books import Book
from worldsalone.errors import UnknownName
from worldsalone.machines import Machine
from worldsalone.meanings import Meaning
from worldsalone.starts import judge_start
from worldsalone.steps import step

MODES = ("user", "system")
TRAP = (("trap", "oops"),)
EMPTY = {"tty": [], "net": []}


def start_of(user, system=None, mode="system", operands=2, code=(0, 1), box=(), answers=None, **told):
    """A book, and a start of its instruction go."""
    book = one_book(tuple(user), tuple(user if system is None else system), operands)
    meaning = one_meaning(book, code[:operands])
    specials = dict(told.pop("specials", {}), mode=5 if mode == "system" else 0)
    machine = made(meaning, specials=some_specials(**specials), **told)
    return book, (meaning, machine, some_specials(**dict(box)), copy.deepcopy(EMPTY if answers is None else answers))


class Judged(unittest.TestCase):
    def judge(self, told, user, system=None, mode="system", **parts):
        """What is told of a start, in system mode if nothing else is said."""
        book, start = start_of(user, system, mode, **parts)
        self.assertEqual(judge_start(book, "go", mode, start), told)

    def both(self, told, user, system=None, **parts):
        """The same for both modes."""
        for mode in MODES:
            self.judge(told, user, user if mode == "user" else system, mode, **parts)


class Right(Judged):
    def test_a_trap_is_right_whatever_the_machine_does(self):
        for system in ((), TRAP, (("load", A, A),), (("out", "tty", A),), (("put", "table", A),)):
            self.judge("right", TRAP, system)
            self.judge("right", (("move", A, T0), ("put", "was", A), ("out", "tty", A), ("trap", "help")), system)
        self.judge("right", TRAP, TRAP, "user")

    def test_refused_at_the_same_address(self):
        # Address 12 is on page 3, which has no frame; 8 is on page 2, which system mode can read and write.
        self.both("right", (("load", T0, A),), registers=[12, 0, 0])
        self.both("right", (("store", A, A),), registers=[12, 0, 0])
        self.judge("right", (("load", T0, A),), (("store", A, T0),), registers=[12, 0, 0])
        self.judge("right", (("in", T0, "tty"), ("out", "tty", T0), ("put", "was", A), ("load", T0, A)), (("load", B, A),),
                   registers=[12, 0, 0])

    def test_done_with_the_same_in_all_parts(self):
        for rows in ((), (("move", A, B),), (("goto", A),), (("load", A, B),), (("store", A, B),), (("prim", A, "inc", (B,)),)):
            self.both("right", rows, registers=[4, 5, 6])
            self.both("right", rows, registers=[5, 5, 6], count=4, arrivals=[(9, 2)], outs={"tty": [3], "net": []})
        self.judge("right", (("goto", A),), (), registers=[1, 0, 0])
        self.judge("right", (("store", A, B),), (), registers=[4, 10, 0])
        self.judge("right", (("move", T0, A), ("move", A, B), ("move", B, T0)), (), registers=[7, 7, 0])

    def test_specials_that_are_put_as_they_are(self):
        self.judge("right", (("put", "was", A),), registers=[7, 0, 0], specials={"was": 7}, box={"was": 7})
        self.judge("right", (("get", T0, "mode"), ("put", "mode", T0)))
        self.judge("right", (("put", "timer", A),), registers=[3, 0, 0], specials={"timer": 3}, box={"timer": 3})

    def test_the_timer_goes_on_by_itself(self):
        for timer in (0, 1, 2, 9):
            for is_out in (False, True):
                self.both("right", (("move", A, B),), registers=[4, 5, 6], specials={"timer": timer}, is_out=is_out)

    def test_answers_that_are_not_taken(self):
        told = {"tty": [(0, 3)], "net": [(7, 2)]}
        self.both("right", (("move", A, B),), answers={"tty": [1], "net": [2, 3]})
        book, start = start_of((("move", A, B),))
        machine = with_changes(start[1], answers=told)
        self.assertEqual(judge_start(book, "go", "system", (start[0], machine, start[2], start[3])), "right")

    def test_lines_that_wait_while_they_are_not_enabled(self):
        self.both("right", (("move", A, B),), lines=(2, 5), arrivals=[(0, 3), (9, 4)], is_out=True)


class Wrong(Judged):
    def test_refused_at_another_address_or_not_at_all(self):
        self.judge(None, (("load", T0, A),), (("load", T0, B),), registers=[12, 13, 0])
        self.judge(None, (("load", T0, A),), (), registers=[12, 0, 0])
        self.judge(None, (("load", T0, A),), TRAP, registers=[12, 0, 0])
        # The fault is 12 already, but the trap is another one.
        self.judge(None, (("load", T0, A),), TRAP, registers=[12, 0, 0], specials={"fault": 12})
        self.judge(None, (("load", T0, A),), (), registers=[12, 0, 0], specials={"fault": 12})

    def test_done_where_the_machine_is_not(self):
        self.judge(None, (), TRAP)
        self.judge(None, (), (("load", T0, A),), registers=[12, 0, 0])

    def test_other_registers(self):
        self.judge(None, (("move", A, B),), (), registers=[1, 2, 3])
        self.judge(None, (), (("move", A, B),), registers=[1, 2, 3])
        self.judge("right", (("move", A, B),), (), registers=[2, 2, 3])
        self.judge(None, (("get", A, "was"),), specials={"was": 1}, box={"was": 2})
        self.judge("right", (("get", A, "was"),), specials={"was": 2}, box={"was": 2})
        self.judge(None, (("get", A, "mode"),))
        self.judge("right", (("get", A, "mode"),), mode="user")

    def test_another_pc(self):
        self.judge(None, (("goto", A),), (), registers=[2, 0, 0])
        self.judge(None, (), (("goto", A),), registers=[2, 0, 0])

    def test_another_word_in_a_frame(self):
        for user, system in (((("store", A, B),), ()), ((), (("store", A, B),)), ((("store", A, B),), (("store", A, A),))):
            self.judge(None, user, system, registers=[5, 7, 0])
        self.judge(None, (("store", A, A),), (("store", B, A), ("store", A, A)), registers=[6, 7, 0])

    def test_a_special_of_the_machine(self):
        for name in NAMES:
            for word in (1, 3):
                self.judge(None, (), (("put", name, A),), registers=[word, 0, 0])
        self.judge(None, (), (("put", "timer", A),), registers=[0, 0, 0], specials={"timer": 2})
        self.judge(None, (), (("put", "timer", A),), registers=[0, 0, 0], specials={"timer": 1})
        self.judge(None, (), (("put", "timer", A),), registers=[1, 0, 0], specials={"timer": 0})
        # Where the flag is True already, it is seen neither that the timer was 1 nor that it was 0.
        self.judge("right", (), (("put", "timer", A),), registers=[0, 0, 0], specials={"timer": 1}, is_out=True)
        self.judge("right", (), (("put", "timer", A),), registers=[1, 0, 0], specials={"timer": 0}, is_out=True)

    def test_a_special_of_the_box(self):
        for name in NAMES:
            self.judge(None, (("put", name, A),), (), registers=[1, 0, 0])
            self.judge("right", (("put", name, A),), (), registers=[0, 0, 0])

    def test_outs(self):
        self.judge(None, (("out", "tty", A),), ())
        self.judge(None, (), (("out", "tty", A),))
        self.both(None, (("out", "net", A),))

    def test_answers_of_the_machine_and_of_the_box(self):
        two = {"tty": [0], "net": []}
        rows = (("in", T0, "tty"),)
        self.judge(None, rows, (), answers=two)
        self.judge("right", rows, ())
        self.judge("right", (), rows, answers=two)
        book, start = start_of((), rows)
        for told, first in ((None, 0), ("right", 4)):
            machine = with_changes(start[1], answers={"tty": [(first, 0)], "net": []})
            self.assertEqual(judge_start(book, "go", "system", (start[0], machine, start[2], start[3])), told)

    def test_the_mapping_is_that_of_the_mode(self):
        """Page 1 of these frames leads to frame 2 for system mode alone; word 3 is (2, "system", "rw")."""
        frames = [[1, 3, 3, 4], [8, 9, 0, 8], [10, 11, 12, 13]]
        self.judge("right", (("load", A, B),), registers=[4, 5, 6], frames=frames)
        self.judge("right", (("load", A, B),), mode="user", registers=[4, 5, 6], frames=frames)
        self.judge(None, (("load", A, B),), (), registers=[4, 5, 6], frames=frames)
        self.judge("right", (("store", A, B), ("load", A, A)), registers=[4, 5, 6], frames=frames)

    def test_translations_use_the_table_as_it_was(self):
        rows = (("store", A, B), ("load", B, A))
        frames = [[1, 12, 12, 12], [8, 9, 0, 8], [10, 11, 12, 13]]
        self.judge("right", rows, registers=[1, 12, 0], frames=frames)


class Fit(unittest.TestCase):
    def setUp(self):
        self.book, self.start = start_of((("move", A, B),), TRAP, registers=[1, 2, 3])
        self.meaning, self.machine, self.specials, self.answers = self.start

    def told(self, *start, mode="system", book=None):
        return judge_start(self.book if book is None else book, "go", mode, tuple(start))

    def fit(self, *start, mode="system", book=None):
        self.assertEqual(self.told(*start, mode=mode, book=book), "fit")

    def changed(self, **told):
        """The start with other parts of its machine."""
        return (self.meaning, with_changes(self.machine, **told), self.specials, self.answers)

    def test_the_start_itself(self):
        self.assertIsNone(self.told(*self.start))

    def test_the_tuple(self):
        for thing in ODD + (list(self.start), self.start[:3], self.start + ((),), self.start[::-1], self.machine, self.meaning):
            self.assertEqual(judge_start(self.book, "go", "system", thing), "fit")

    def test_the_meaning(self):
        for thing in ODD + (self.machine, self.book, 0):
            self.fit(thing, *self.start[1:])
        other = Book(3, PRIMITIVES, CAUSES, PORTS, [*self.book.instructions(), ("more", 0, (), ())])
        meaning = Meaning(other, 4, 4, TABLES, ENTRIES, {8: ("go", (0, 1))})
        machine = Machine(meaning, *[getattr(self.machine, name)() for name in (
            "frames", "registers", "pc", "specials", "is_out", "lines", "outs", "answers", "arrivals", "count")])
        self.fit(meaning, machine, self.specials, self.answers)
        self.assertIsNone(self.told(meaning, machine, self.specials, self.answers, book=other))
        self.fit(*self.start, book=other)

    def test_an_equal_meaning_and_an_equal_book(self):
        book = one_book((("move", A, B),), TRAP, 2)
        meaning = one_meaning(book, (0, 1))
        self.assertIsNone(self.told(meaning, *self.start[1:]))
        self.assertIsNone(self.told(*self.start, book=book))

    def test_the_machine(self):
        for thing in ODD + (self.meaning, Box(self.meaning, [[0] * 4], some_specials(), EMPTY), 0):
            self.fit(self.meaning, thing, *self.start[2:])

    def test_a_machine_of_another_meaning(self):
        meaning = one_meaning(self.book, (1, 0))
        self.fit(meaning, *self.start[1:])
        _, start = start_of((("move", A, B),), TRAP, code=(1, 0))
        self.fit(self.meaning, start[1], *self.start[2:])

    def test_another_mode(self):
        self.fit(*self.start, mode="user")
        self.fit(*self.changed(specials={"mode": 0}))
        self.assertEqual(self.told(*self.changed(specials={"mode": 0}), mode="user"), "right")
        for mode in range(1, 16):
            self.assertIsNone(self.told(*self.changed(specials={"mode": mode})))

    def test_a_line_or_the_timer_is_due(self):
        on = {"enabled": 1}
        self.fit(*self.changed(specials=on, lines=(3,)))
        self.fit(*self.changed(specials=on, arrivals=[(0, 3)]))
        self.fit(*self.changed(specials=on, arrivals=[(4, 3)], count=4))
        self.fit(*self.changed(specials=on, is_out=True))
        self.assertIsNone(self.told(*self.changed(specials=on)))
        self.assertIsNone(self.told(*self.changed(specials=on, arrivals=[(5, 3)], count=4)))
        self.assertIsNone(self.told(*self.changed(lines=(3,), is_out=True)))
        self.assertIsNone(self.told(*self.changed(specials={"enabled": 1, "timer": 1})))

    def test_an_instruction_that_is_another_one_or_is_not_fetched(self):
        self.fit(*self.changed(pc=1))
        self.fit(*self.changed(pc=2))
        self.fit(*self.changed(pc=4))
        self.fit(*self.changed(pc=12))
        self.fit(*self.changed(specials={"table": 3}))
        self.fit(*self.changed(frames=[[0, 6, 3, 4], [8, 9, 0, 8], [10, 11, 12, 13]]))
        self.fit(*self.changed(frames=[[1, 6, 3, 4], [9, 9, 0, 8], [10, 11, 12, 13]]))
        self.assertIsNone(self.told(*self.changed(pc=3)))
        self.assertEqual(judge_start(self.book, "nop", "system", self.start), "fit")
        self.assertEqual(judge_start(self.book, "nop", "system", self.changed(pc=1)), "right")

    def test_the_mode_counts_for_the_fetch(self):
        """Word 5 lets system mode alone fetch from frame 1."""
        frames = [[5, 6, 3, 4], [8, 9, 0, 8], [10, 11, 12, 13]]
        self.assertIsNone(self.told(*self.changed(frames=frames)))
        self.fit(*self.changed(frames=frames, specials={"mode": 0}), mode="user")

    def test_the_specials(self):
        for thing in ODD + (0, [0] * 9, tuple(self.specials.items())):
            self.fit(self.meaning, self.machine, thing, self.answers)
        for name in NAMES:
            self.fit(self.meaning, self.machine, {k: v for k, v in self.specials.items() if k != name}, self.answers)
            for word in (16, -1, None, True, "0", [0]):
                self.fit(self.meaning, self.machine, {**self.specials, name: word}, self.answers)
        self.fit(self.meaning, self.machine, {**self.specials, "mode": 1}, self.answers)
        self.fit(self.meaning, self.machine, {**self.specials, "other": 1}, self.answers)
        self.assertIsNone(self.told(self.meaning, self.machine, {**self.specials, "was": 15}, self.answers))

    def test_the_answers(self):
        for thing in ODD + (0, [[], []], {"tty": []}, {"tty": [], "net": [], "x": []}, {"tty": [], "NET": []}):
            self.fit(self.meaning, self.machine, self.specials, thing)
        for words in (None, 3, "3", {}, [16], [-1], [True], ["1"], [(0, 1)], [[1]], {3}):
            self.fit(self.meaning, self.machine, self.specials, {"tty": words, "net": []})
        self.assertIsNone(self.told(self.meaning, self.machine, self.specials, {"tty": (3, 15), "net": ()}))

    def test_names_are_refused_first(self):
        for name in ODD + ("nope", "inc", ("go",), 0):
            for start in (None, self.start):
                with self.assertRaises(UnknownName, msg=name) as caught:
                    judge_start(self.book, name, "system", start)
                self.assertIs(caught.exception.name, name)

    def test_nothing_changes(self):
        kept = copy.deepcopy((self.specials, self.answers))
        behind = step(self.machine)
        self.assertIsNone(self.told(*self.start))
        self.assertEqual((self.specials, self.answers), kept)
        self.assertEqual(step(self.machine), behind)


if __name__ == "__main__":
    unittest.main()
