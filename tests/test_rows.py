"""Instructions and their rows: S2.5 and S2.6, on machines in both modes and on boxes."""

import unittest

from samples import A, B, C, NAMES, PORTS, T0, T1, T2, T3, going, one_book, some_frames, some_specials, with_changes
from worldsalone.bare import Box, box_of
from worldsalone.books import Book
from worldsalone.machines import Machine
from worldsalone.meanings import Meaning
from worldsalone.steps import step

# By the usual frames, page 0 (addresses 0 to 3) is frame 1, and page 1 (addresses 4 to 7) is frame 2, "rw".
MAPPING = {0: (1, "rwx"), 1: (2, "rw")}


class Rows(unittest.TestCase):
    def leaves(self, rows, registers, behind, code=(0, 1, 2), specials=None, put=None, **changes):
        """Rows are done in user mode, in system mode and on a box, and leave these registers and changes.

        specials are those ahead of the instruction, put are those that differ behind it.
        """
        told = {} if specials is None else specials
        changed = {} if put is None else put
        for mode in (0, 1):
            hidden = (("trap", "oops"),)
            pair = (rows, hidden) if mode == 0 else (hidden, rows)
            machine = going(*pair, code=code, registers=registers, specials=some_specials(**{**told, "mode": mode}))
            pc = changes.get("pc", 1)
            expected = with_changes(machine, **{**changes, "specials": changed, "registers": behind, "pc": pc, "count": 1})
            self.assertEqual(step(machine), (expected, ("done",)))
        box = box_of(going(rows, code=code, registers=registers, specials=some_specials(**told)))
        self.assertEqual(box.bare(MAPPING, registers, 0), ("done", behind, pc))
        self.assertEqual(box.frames(), changes.get("frames", some_frames()))
        self.assertEqual(box.specials(), some_specials(**{**told, **changed}))
        self.assertEqual(box.outs(), changes.get("outs", {"tty": [], "net": []}))

    def ends(self, rows, registers, end, specials=None, code=(0, 1, 2)):
        """Rows are refused or come to a trap row, and nothing that they did counts."""
        told = {} if specials is None else specials
        for mode in (0, 1):
            hidden = (("goto", T0),)
            pair = (rows, hidden) if mode == 0 else (hidden, rows)
            machine = going(*pair, code=code, registers=registers, specials=some_specials(**{**told, "mode": mode}))
            cause = "page" if end[0] == "refused" else end[1]
            put = {"back": 0, "was": mode, "mode": 1, "enabled": 0}
            put["cause"] = ("page", "code", "line", "timer", "oops", "help").index(cause)
            if cause == "page":
                put["fault"] = end[1]
            expected = with_changes(machine, specials=put, pc=told.get("handler", 0), count=1)
            self.assertEqual(step(machine), (expected, ("trap", cause)))
        machine = going(rows, code=code, registers=registers, specials=some_specials(**told))
        box = box_of(machine)
        self.assertEqual(box.bare(MAPPING, registers, 0), end)
        self.assertEqual(box, box_of(machine))

    def test_no_rows(self):
        self.leaves((), [1, 2, 3], [1, 2, 3])

    def test_move(self):
        self.leaves((("move", A, B),), [1, 2, 3], [2, 2, 3])
        self.leaves((("move", C, A),), [1, 2, 3], [1, 2, 1])
        self.leaves((("move", A, A),), [1, 2, 3], [1, 2, 3])
        self.leaves((("move", A, T0),), [1, 2, 3], [0, 2, 3])
        self.leaves((("move", T3, A), ("move", B, T3)), [1, 2, 3], [1, 1, 3])

    def test_rows_come_in_order(self):
        self.leaves((("move", A, B), ("move", B, A)), [1, 2, 3], [2, 2, 3])
        self.leaves((("move", T0, A), ("move", A, B), ("move", B, T0)), [1, 2, 3], [2, 1, 3])

    def test_temporaries(self):
        for one, other in ((T0, T1), (T1, T2), (T2, T3), (T3, T0)):
            self.leaves((("move", one, A), ("move", other, B), ("move", C, one)), [1, 2, 3], [1, 2, 1])
            self.leaves((("move", one, A), ("move", C, other)), [1, 2, 3], [1, 2, 0])

    def test_operands_stand_for_the_registers_of_the_code(self):
        self.leaves((("move", A, B),), [1, 2, 3], [1, 2, 2], code=(2, 1, 0))
        self.leaves((("move", A, B), ("move", C, A)), [1, 2, 3], [3, 3, 3], code=(1, 2, 0))

    def test_operands_that_are_one_register(self):
        self.leaves((("move", A, C), ("prim", B, "inc", (B,))), [1, 2, 3], [3 + 1, 2, 3], code=(0, 0, 2))
        self.leaves((("move", A, B),), [1, 2, 3], [1, 2, 3], code=(1, 1, 1))
        rows = (("prim", A, "inc", (B,)), ("prim", C, "sum", (A, B)))
        self.leaves(rows, [1, 2, 3], [1, 6, 3], code=(1, 1, 1))
        self.leaves((("store", A, B),), [5, 2, 3], [5, 2, 3], code=(0, 0, 0), frames=self.stored(1, 5))

    def test_prim(self):
        self.leaves((("prim", A, "one", ()),), [7, 8, 9], [1, 8, 9])
        self.leaves((("prim", A, "inc", (B,)),), [7, 8, 9], [9, 8, 9])
        self.leaves((("prim", A, "inc", (A,)),), [15, 8, 9], [0, 8, 9])
        self.leaves((("prim", C, "sum", (A, B)),), [2, 3, 0], [2, 3, 5])
        self.leaves((("prim", C, "sum", (C, C)),), [2, 3, 4], [2, 3, 8])

    def test_args_keep_their_order(self):
        # The tables of the samples do not tell x + y from y + x, so this one is a box of its own.
        book = one_book((("prim", C, "sum", (A, B)),))
        meaning = Meaning(book, 4, 4, {"sum": {(1, 2): 5, (2, 1): 6}}, {}, {8: ("go", (0, 1, 2))})
        box = Box(meaning, some_frames(), some_specials(), {port: [] for port in PORTS})
        self.assertEqual(box.bare(MAPPING, [1, 2, 0], 0), ("done", [1, 2, 5], 1))
        self.assertEqual(box.bare(MAPPING, [2, 1, 0], 0), ("done", [2, 1, 6], 1))
        self.assertEqual(box.bare(MAPPING, [1, 1, 7], 0), ("done", [1, 1, 0], 1))

    def stored(self, place, word):
        frames = some_frames()
        frames[2][place] = word
        return frames

    def test_load(self):
        for address, word in ((0, 8), (1, 9), (4, 10), (7, 13)):
            self.leaves((("load", A, B),), [1, address, 3], [word, address, 3])
        self.leaves((("load", A, A),), [6, 2, 3], [12, 2, 3])
        self.leaves((("load", T1, A), ("move", B, T1)), [6, 2, 3], [6, 12, 3])

    def test_load_is_refused(self):
        for address in (12, 15):
            rows = (("move", C, A), ("out", "tty", A), ("put", "was", A), ("goto", A), ("load", A, B), ("trap", "oops"))
            self.ends(rows, [1, address, 3], ("refused", address, "r"), {"handler": 2, "fault": 6})

    def test_store(self):
        for address, place in ((4, 0), (5, 1), (7, 3)):
            self.leaves((("store", A, B),), [address, 6, 3], [address, 6, 3], frames=self.stored(place, 6))
        self.leaves((("store", A, A),), [4, 6, 3], [4, 6, 3], frames=self.stored(0, 4))

    def test_store_is_refused(self):
        for address in (12, 15):
            rows = (("store", C, A), ("out", "tty", A), ("in", A, "tty"), ("store", B, A), ("trap", "oops"))
            self.ends(rows, [1, address, 4], ("refused", address, "w"), {"handler": 2, "fault": 6})

    def test_the_first_refusal_ends_the_rows(self):
        self.ends((("store", A, C), ("load", C, B)), [12, 13, 0], ("refused", 12, "w"))
        self.ends((("load", C, B), ("store", A, C)), [12, 13, 0], ("refused", 13, "r"))

    def test_values_are_read_from_the_draft(self):
        self.leaves((("store", A, B), ("load", C, A)), [4, 6, 3], [4, 6, 6], frames=self.stored(0, 6))
        rows = (("store", A, B), ("store", A, C), ("load", B, A))
        self.leaves(rows, [4, 6, 3], [4, 3, 3], frames=self.stored(0, 3))
        self.leaves((("put", "back", A), ("get", B, "back")), [4, 6, 3], [4, 4, 3], put={"back": 4})
        rows = (("move", A, B), ("store", C, A))
        self.leaves(rows, [4, 6, 5], [6, 6, 5], frames=self.stored(1, 6))
        self.leaves((("move", A, B), ("load", C, A)), [4, 6, 5], [6, 6, 12])

    def test_specials(self):
        for name in NAMES:
            if name not in ("mode", "table", "timer"):
                self.leaves((("get", A, name),), [1, 2, 3], [9, 2, 3], specials={name: 9})
                self.leaves((("put", name, A),), [7, 2, 3], [7, 2, 3], specials={name: 9}, put={name: 7})

    def test_get_of_specials_that_steer(self):
        for mode in (0, 1, 9):
            machine = going((("get", A, "mode"), ("get", B, "table"), ("get", C, "timer")), registers=[5, 5, 5],
                            specials=some_specials(mode=mode, timer=6))
            self.assertEqual(step(machine)[0].registers(), [mode, 0, 6])
            self.assertEqual(step(machine)[0].special("timer"), 5)

    def test_put_of_specials_that_steer(self):
        rows = (("put", "mode", A), ("put", "table", B), ("get", A, "table"), ("get", B, "mode"))
        for mode in (0, 1):
            machine = going(rows, registers=[5, 2, 0], specials=some_specials(mode=mode))
            expected = with_changes(machine, registers=[2, 5, 0], pc=1, count=1, specials={"mode": 5, "table": 2})
            self.assertEqual(step(machine), (expected, ("done",)))

    def test_goto(self):
        self.leaves((("goto", A),), [11, 2, 3], [11, 2, 3], pc=11)
        self.leaves((("goto", A),), [0, 2, 3], [0, 2, 3], pc=0)
        self.leaves((("goto", T0),), [5, 2, 3], [5, 2, 3], pc=0)

    def test_the_last_goto_counts(self):
        self.leaves((("goto", A), ("goto", B), ("goto", C)), [11, 2, 3], [11, 2, 3], pc=3)
        self.leaves((("goto", A), ("if", T0, (("goto", B),), ())), [11, 2, 3], [11, 2, 3], pc=11)

    def test_goto_notes_the_value_of_then(self):
        self.leaves((("goto", A), ("move", A, B)), [11, 2, 3], [2, 2, 3], pc=11)
        self.leaves((("move", A, B), ("goto", A)), [11, 2, 3], [2, 2, 3], pc=2)

    def test_rows_behind_a_goto_are_carried_out(self):
        self.ends((("goto", A), ("trap", "oops")), [11, 2, 3], ("trap", "oops"))

    def test_if(self):
        rows = (("if", A, (("move", B, C),), (("move", C, B),)),)
        for word in (1, 2, 15):
            self.leaves(rows, [word, 2, 3], [word, 3, 3])
        self.leaves(rows, [0, 2, 3], [0, 2, 2])
        self.leaves((("if", A, (), ()),), [1, 2, 3], [1, 2, 3])

    def test_rows_behind_an_if_are_carried_out(self):
        rows = (("if", A, (("move", T0, C), ("move", T1, C)), (("move", T0, B),)), ("move", B, T0), ("move", C, T1))
        self.leaves(rows, [1, 2, 3], [1, 3, 3])
        self.leaves(rows, [0, 2, 3], [0, 2, 0])

    def test_ifs_within_ifs(self):
        inner = ("if", B, (("prim", C, "inc", (C,)),), (("trap", "help"),))
        rows = (("if", A, (inner, ("prim", C, "inc", (C,)), inner), (("if", B, (("trap", "oops"),), (inner,)),)),)
        self.leaves(rows, [1, 1, 3], [1, 1, 6])
        self.ends(rows, [1, 0, 3], ("trap", "help"))
        self.ends(rows, [0, 1, 3], ("trap", "oops"))
        self.ends(rows, [0, 0, 3], ("trap", "help"))

    def test_if_reads_the_draft(self):
        rows = (("move", A, T0), ("if", A, (("trap", "oops"),), (("move", A, B), ("if", A, (("goto", C),), ()))))
        self.leaves(rows, [1, 2, 3], [2, 2, 3], pc=3)

    def test_deep_ifs(self):
        rows = (("move", B, C),)
        for _ in range(40):
            rows = (("if", A, rows, (("trap", "oops"),)),)
        self.leaves(rows, [1, 2, 3], [1, 3, 3])

    def test_trap_behind_changes(self):
        changes = (("move", A, B), ("store", B, C), ("put", "table", B), ("put", "handler", B), ("out", "tty", A))
        changes += (("in", C, "tty"), ("goto", A), ("put", "fault", A), ("put", "cause", A), ("put", "mode", A))
        for cause in ("oops", "help"):
            self.ends(changes + (("trap", cause),), [9, 5, 3], ("trap", cause), {"handler": 11, "fault": 4})
            self.ends(changes + (("if", A, (("trap", cause),), ()),), [9, 5, 3], ("trap", cause), {"handler": 11})

    def test_nothing_behind_a_trap_is_carried_out(self):
        self.ends((("trap", "help"), ("trap", "oops")), [1, 2, 3], ("trap", "help"))
        self.ends((("if", A, (("trap", "help"),), ()), ("trap", "oops")), [1, 2, 3], ("trap", "help"))
        self.ends((("trap", "help"), ("load", A, B)), [1, 15, 3], ("trap", "help"))

    def test_out(self):
        rows = (("out", "tty", A), ("out", "net", B), ("out", "tty", C), ("move", A, B), ("out", "tty", A))
        self.leaves(rows, [1, 2, 3], [2, 2, 3], outs={"tty": [1, 3, 2], "net": [2]})
        machine = going((("out", "net", A),), registers=[1, 2, 3], outs={"tty": [4], "net": [5, 5]})
        self.assertEqual(step(machine)[0].outs(), {"tty": [4], "net": [5, 5, 1]})


class Answers(unittest.TestCase):
    rows = (("in", A, "tty"), ("in", B, "tty"), ("in", C, "net"))

    def taken(self, count, tty, net):
        machine = going(self.rows, registers=[5, 5, 5], count=count, answers={"tty": tty, "net": net})
        behind, event = step(machine)
        self.assertEqual(event, ("done",))
        self.assertEqual(behind, with_changes(
            machine, registers=behind.registers(), answers=behind.answers(), pc=1, count=count + 1))
        return behind.registers(), behind.answers()["tty"], behind.answers()["net"]

    def test_no_answers(self):
        self.assertEqual(self.taken(3, [], []), ([0, 0, 0], [], []))

    def test_answers_are_taken_in_order(self):
        self.assertEqual(self.taken(3, [(0, 7), (3, 8), (3, 9)], [(2, 4)]), ([7, 8, 4], [(3, 9)], []))
        self.assertEqual(self.taken(3, [(3, 8)], [(3, 4), (3, 4)]), ([8, 0, 4], [], [(3, 4)]))

    def test_answers_that_come_late(self):
        self.assertEqual(self.taken(3, [(3, 7), (4, 8)], [(5, 9)]), ([7, 0, 0], [(4, 8)], [(5, 9)]))
        self.assertEqual(self.taken(3, [(4, 7)], []), ([0, 0, 0], [(4, 7)], []))
        self.assertEqual(self.taken(4, [(4, 7)], []), ([7, 0, 0], [], []))
        self.assertEqual(self.taken(0, [(0, 7), (1, 8)], [(0, 3)]), ([7, 0, 3], [(1, 8)], []))

    def test_answer_zero_is_taken(self):
        self.assertEqual(self.taken(3, [(0, 0), (0, 6)], [(0, 0)]), ([0, 6, 0], [], []))

    def test_nothing_is_taken_by_rows_that_end(self):
        for last in (("trap", "oops"), ("load", A, T0), ("store", T0, A)):
            frames = [[0, 6, 3, 1], [8, 9, 0, 8], [10, 11, 12, 13]]
            machine = going(self.rows + (last,), count=3, pc=12, frames=frames, registers=[1, 2, 3],
                            answers={"tty": [(0, 7)], "net": [(0, 7)]}, outs={"tty": [1], "net": []})
            behind, event = step(machine)
            self.assertEqual(event[0], "trap")
            self.assertEqual(behind.answers(), machine.answers())
            self.assertEqual((behind.registers(), behind.outs()), ([1, 2, 3], {"tty": [1], "net": []}))

    def test_an_in_that_is_not_carried_out_takes_nothing(self):
        rows = (("if", T0, (("in", A, "tty"),), ()),)
        machine = going(rows, answers={"tty": [(0, 7)], "net": []})
        self.assertEqual(step(machine)[0].answers(), machine.answers())

    def test_the_answers_of_arrivals_of_the_same_step(self):
        machine = going(self.rows, count=3, answers={"tty": [(3, 7)], "net": []}, arrivals=[(3, 1)])
        behind = step(machine)[0]
        self.assertEqual((behind.registers(), behind.lines()), ([7, 0, 0], (1,)))


class Translations(unittest.TestCase):
    """All translations of an instruction are those of its beginning."""

    # Page 0 is frame 1 (code), page 1 the table itself, page 2 frame 2, page 3 nothing.
    def going_with_table(self, rows, registers, **specials):
        book = Book(3, [("one", 0)], ["oops"], [], [("go", 3, rows, rows)])
        entries = {1: (1, "all", "rwx"), 2: (0, "all", "rw"), 3: (2, "all", "rw"), 4: (1, "system", "rw"), 5: (2, "all", "r")}
        meaning = Meaning(book, 4, 4, {"one": {(): 1}}, entries, {8: ("go", (0, 1, 2))})
        frames = [[1, 2, 3, 0], [8, 9, 0, 8], [10, 11, 12, 13]]
        return Machine(meaning, frames, registers, 0, some_specials(**specials), False, (), {}, {}, [], 0)

    def test_a_store_into_the_table_counts_for_the_next_instruction(self):
        # The word 0 takes page 2 away; the load behind the store still finds it.
        machine = self.going_with_table((("store", A, T0), ("load", B, C)), [6, 0, 9])
        behind, event = step(machine)
        self.assertEqual((event, behind.registers()), (("done",), [6, 11, 9]))
        self.assertEqual(behind.frames()[0], [1, 2, 0, 0])
        again = with_changes(behind, pc=0)
        self.assertEqual(step(again)[1], ("trap", "page"))
        self.assertEqual(step(again)[0].special("fault"), 9)

    def test_a_store_that_gives_a_page_counts_for_the_next_instruction(self):
        machine = self.going_with_table((("store", A, B), ("load", B, C)), [7, 3, 13])
        behind, event = step(machine)
        self.assertEqual((event, behind.special("fault")), (("trap", "page"), 13))
        self.assertEqual(behind.frames(), machine.frames())

    def test_a_store_that_takes_a_right_counts_for_the_next_instruction(self):
        machine = self.going_with_table((("store", A, B), ("store", C, B)), [6, 5, 10])
        behind, event = step(machine)
        self.assertEqual((event, behind.frames()[2]), (("done",), [10, 11, 5, 13]))
        again, event = step(with_changes(behind, pc=0))
        self.assertEqual((event, again.special("fault"), again.frames()), (("trap", "page"), 10, behind.frames()))

    def test_a_load_finds_what_was_stored_in_the_table(self):
        machine = self.going_with_table((("store", A, B), ("load", C, A)), [6, 5, 0])
        self.assertEqual(step(machine)[0].registers(), [6, 5, 5])

    def test_put_of_the_table_counts_for_the_next_instruction(self):
        rows = (("put", "table", A), ("load", B, C))
        machine = self.going_with_table(rows, [9, 0, 8])
        behind, event = step(machine)
        self.assertEqual((event, behind.registers(), behind.special("table")), (("done",), [9, 10, 8], 9))
        self.assertEqual(step(behind)[1], ("trap", "page"))

    def test_put_of_the_mode_counts_for_the_next_instruction(self):
        rows = (("put", "mode", A), ("load", B, C))
        frames = [[1, 4, 3, 0], [8, 9, 0, 8], [10, 11, 12, 13]]
        user = with_changes(self.going_with_table(rows, [1, 0, 4]), frames=frames)
        self.assertEqual(step(user)[1], ("trap", "page"))
        self.assertEqual(step(user)[0].special("was"), 0)
        system = with_changes(self.going_with_table(rows, [0, 0, 4], mode=1), frames=frames)
        behind, event = step(system)
        self.assertEqual((event, behind.registers(), behind.special("mode")), (("done",), [0, 8, 4], 0))
        self.assertEqual(step(with_changes(behind, pc=0))[1], ("trap", "page"))

    def test_put_of_the_mode_keeps_the_rows(self):
        machine = going((("put", "mode", A), ("move", B, A)), (("trap", "oops"),), registers=[1, 0, 0])
        self.assertEqual(step(machine)[0].registers(), [1, 1, 0])

    def test_code_that_is_stored_over_itself(self):
        machine = self.going_with_table((("store", A, B), ("move", C, B)), [0, 5, 1])
        behind, event = step(machine)
        self.assertEqual((event, behind.registers(), behind.pc()), (("done",), [0, 5, 5], 1))
        self.assertEqual(behind.word(1, 0), 5)
        self.assertEqual(step(with_changes(behind, pc=0))[1], ("trap", "code"))

    def test_system_pages(self):
        frames = [[1, 4, 3, 0], [8, 9, 0, 8], [10, 11, 12, 13]]
        for mode, event in ((0, ("trap", "page")), (1, ("done",)), (7, ("done",))):
            for row in (("load", A, B), ("store", B, A)):
                machine = with_changes(self.going_with_table((row,), [1, 5, 4], mode=mode), frames=frames)
                self.assertEqual(step(machine)[1], event)

    def test_rights_of_loads_and_stores(self):
        frames = [[1, 5, 3, 0], [8, 9, 0, 8], [10, 11, 12, 13]]
        load = with_changes(self.going_with_table((("load", A, B),), [1, 5, 4]), frames=frames)
        self.assertEqual(step(load)[0].registers(), [11, 5, 4])
        store = with_changes(self.going_with_table((("store", B, A),), [1, 5, 4]), frames=frames)
        self.assertEqual(step(store)[1], ("trap", "page"))

    def test_a_right_that_is_only_x(self):
        machine = going((("load", A, B),), frames=[[5, 6, 3, 4], [8, 9, 0, 8], [10, 11, 12, 13]],
                        specials=some_specials(mode=1), registers=[0, 1, 0])
        self.assertEqual(step(machine)[1], ("trap", "page"))


if __name__ == "__main__":
    unittest.main()
