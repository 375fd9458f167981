"""Boxes and bare steps: S2.7, S2.8, Box and box_of."""

import unittest

from samples import A, B, C, ENTRIES, NAMES, ODD, T0, assert_new, going, made, one_book, one_meaning, some_frames
from samples import some_specials, spoil
from worldsalone.bare import Box, box_of
from worldsalone.books import Book
from worldsalone.errors import BadMachine, NotThere, UnknownName
from worldsalone.meanings import Meaning

MEANING = one_meaning(one_book(()))
SPECIALS = {name: 0 if name == "mode" else 2 + k for k, name in enumerate(NAMES)}
ANSWERS = {"tty": [4, 0, 15], "net": []}


def some_box(meaning=MEANING, **told):
    """A box with the parts that are told and the usual ones."""
    parts = {"frames": some_frames(), "specials": SPECIALS, "answers": ANSWERS}
    parts.update(told)
    return Box(meaning, *parts.values())


def box_for(rows, code=(0, 1, 2), **told):
    """A box on which word 8 is an instruction with these user rows."""
    return some_box(one_meaning(one_book(rows, (("trap", "help"),)), code), **told)


class Parts(unittest.TestCase):
    def test_parts_are_told(self):
        box = some_box()
        self.assertEqual(box.meaning(), MEANING)
        self.assertEqual(box.frames(), some_frames())
        self.assertEqual(box.specials(), SPECIALS)
        self.assertEqual(box.answers(), ANSWERS)
        self.assertEqual(box.outs(), {"tty": [], "net": []})

    def test_tuples_in_place_of_lists(self):
        box = some_box(frames=tuple([tuple(frame) for frame in some_frames()]), answers={"net": (), "tty": (4, 0, 15)})
        self.assertEqual(box, some_box())
        self.assertEqual((box.frames(), box.answers()), (some_frames(), ANSWERS))
        box.poke(0, 0, 5)
        box.give("net", 6)
        self.assertEqual((box.frames()[0], box.answers()["net"]), ([5, 6, 3, 4], [6]))

    def test_parts_are_new(self):
        box = some_box()
        for call in (box.frames, box.specials, box.answers, box.outs):
            assert_new(self, call)
            spoil(call())
        self.assertEqual(box, some_box())

    def test_what_is_passed_stays_and_may_be_changed_afterwards(self):
        parts = [some_frames(), dict(SPECIALS), {"tty": [4, 0, 15], "net": []}]
        box = Box(MEANING, *parts)
        box.poke(0, 0, 15)
        box.set_special("was", 15)
        box.give("net", 15)
        box.bare({0: (1, "x")}, [0, 0, 0], 1)
        self.assertEqual(parts, [some_frames(), SPECIALS, ANSWERS])
        other = Box(MEANING, *parts)
        spoil(parts)
        self.assertEqual(other, some_box())

    def test_shared_lists_are_told_apart(self):
        shared = [1, 2, 3, 4]
        box = some_box(frames=[shared, shared], answers={"tty": shared, "net": shared})
        box.poke(0, 0, 9)
        box.give("tty", 9)
        self.assertEqual(box.frames(), [[9, 2, 3, 4], [1, 2, 3, 4]])
        self.assertEqual(box.answers(), {"tty": [1, 2, 3, 4, 9], "net": [1, 2, 3, 4]})

    def refuse(self, word, **told):
        with self.assertRaises(BadMachine, msg=f"{word} {told}") as caught:
            some_box(**told)
        self.assertEqual(caught.exception.word, word)

    def test_wrong_frames(self):
        right = [1, 2, 3, 4]
        for thing in ODD + (right, [right, [1, 2, 3]], [right, [1, 2, 3, 4, 5]], [[]], [right, None], {0: right}, "abcd"):
            self.refuse("frames", frames=thing)
        for word in (16, -1, True, None, "1", (1,)):
            self.refuse("frames", frames=[right, [word, 2, 3, 4]])

    def test_wrong_specials(self):
        for thing in ODD + ([0] * 9, NAMES, {**SPECIALS, "more": 0}):
            self.refuse("specials", specials=thing)
        for name in NAMES:
            self.refuse("specials", specials={other: 0 for other in NAMES if other != name})
            for word in (16, -1, True, False, None, "0", (0,)):
                self.refuse("specials", specials={**SPECIALS, name: word})
        for mode in (1, 2, 15):
            self.refuse("specials", specials={**SPECIALS, "mode": mode})

    def test_wrong_answers(self):
        for thing in ODD + ([[], []], {"tty": []}, {"tty": [], "more": []}, {"tty": [], "net": [], "more": []}):
            self.refuse("answers", answers=thing)
        for words in (None, "", "1", 1, {}, [16], [-1], [1, True], [None], ["1"], [[1]], [(0, 1)]):
            self.refuse("answers", answers={"tty": words, "net": []})
            self.refuse("answers", answers={"tty": [], "net": words})

    def test_the_first_wrong_part_is_told(self):
        self.refuse("frames", frames=None, specials=None, answers=None)
        self.refuse("frames", frames=None, answers=None)
        self.refuse("specials", specials=None, answers=None)

    def test_equality(self):
        self.assertTrue(some_box() == some_box())
        self.assertFalse(some_box() != some_box())
        others = [some_box(frames=some_frames() + [[0, 0, 0, 0]]), some_box(specials={**SPECIALS, "fault": 0})]
        others += [some_box(answers={"tty": [4, 0, 15], "net": [0]})]
        others += [some_box(Meaning(MEANING.book(), 4, 4, {}, ENTRIES, {8: ("go", (0, 1, 2)), 9: ("nop", ())}))]
        for other in others:
            self.assertFalse(some_box() == other)
            self.assertTrue(some_box() != other)
        for thing in ODD + (MEANING, some_frames(), made(MEANING)):
            self.assertFalse(some_box() == thing)

    def test_outs_make_boxes_unlike(self):
        rows = (("out", "tty", A),)
        box, other = box_for(rows), box_for(rows)
        box.bare({0: (1, "x")}, [5, 0, 0], 0)
        self.assertFalse(box == other)
        other.bare({0: (1, "x")}, [5, 0, 0], 0)
        self.assertTrue(box == other)


class Changes(unittest.TestCase):
    def setUp(self):
        self.box = some_box()

    def refuse(self, error, attribute, told, call, *args):
        with self.assertRaises(error, msg=f"{args}") as caught:
            call(*args)
        self.assertIs(getattr(caught.exception, attribute), told)
        self.assertEqual(self.box, some_box())

    def test_peek_and_poke(self):
        self.assertEqual([self.box.peek(1, place) for place in range(4)], [8, 9, 0, 8])
        self.assertIsNone(self.box.poke(2, 3, 0))
        self.assertEqual(self.box.peek(2, 3), 0)
        self.assertEqual(self.box, some_box(frames=[[1, 6, 3, 4], [8, 9, 0, 8], [10, 11, 12, 0]]))
        self.box.poke(0, 0, 15)
        self.assertEqual(self.box.frames(), [[15, 6, 3, 4], [8, 9, 0, 8], [10, 11, 12, 0]])

    def test_peek_and_poke_refuse(self):
        for thing in ODD + (3, 10 ** 39, "0", (0,)):
            for place in (0, 4, None):
                self.refuse(NotThere, "number", thing, self.box.peek, thing, place)
                for word in (0, 16, None):
                    self.refuse(NotThere, "number", thing, self.box.poke, thing, place, word)
        for thing in ODD + (4, 10 ** 39, "0", (0,)):
            self.refuse(NotThere, "number", thing, self.box.peek, 2, thing)
            for word in (0, 16, None):
                self.refuse(NotThere, "number", thing, self.box.poke, 2, thing, word)
        for thing in ODD + (16, 10 ** 39, "0", (0,)):
            self.refuse(BadMachine, "word", "frames", self.box.poke, 0, 0, thing)

    def test_specials(self):
        for name in NAMES:
            self.assertEqual(self.box.special(name), SPECIALS[name])
            if name != "mode":
                self.assertIsNone(self.box.set_special(name, 15))
                self.assertEqual(self.box.special(name), 15)
        self.box.set_special("mode", 0)
        self.assertEqual(self.box.specials(), {name: 0 if name == "mode" else 15 for name in NAMES})

    def test_specials_refuse(self):
        for thing in ODD + ("pc", "Mode", 0, ("mode",), ["mode"]):
            self.refuse(UnknownName, "name", thing, self.box.special, thing)
            for word in (0, 16, None):
                self.refuse(UnknownName, "name", thing, self.box.set_special, thing, word)
        for thing in ODD + (16, 10 ** 39, "0", (0,)):
            for name in NAMES:
                self.refuse(BadMachine, "word", "specials", self.box.set_special, name, thing)
        for mode in (1, 2, 15):
            self.refuse(BadMachine, "word", "specials", self.box.set_special, "mode", mode)

    def test_give(self):
        self.assertIsNone(self.box.give("tty", 0))
        self.box.give("net", 15)
        self.box.give("tty", 7)
        self.assertEqual(self.box, some_box(answers={"tty": [4, 0, 15, 0, 7], "net": [15]}))

    def test_give_refuses(self):
        for thing in ODD + ("more", "mode", 0, ("tty",), ["tty"]):
            for word in (0, 16, None):
                self.refuse(UnknownName, "name", thing, self.box.give, thing, word)
        for thing in ODD + (16, 10 ** 39, "0", (0,)):
            self.refuse(BadMachine, "word", "answers", self.box.give, "tty", thing)


class BareSteps(unittest.TestCase):
    mapping = {0: (1, "x"), 1: (2, "rw"), 3: (0, "rwx")}

    def test_done(self):
        rows = (("move", A, B), ("store", C, A), ("put", "was", C), ("out", "tty", A), ("in", B, "tty"), ("goto", C))
        box = box_for(rows)
        end = box.bare(self.mapping, [1, 2, 5], 0)
        self.assertEqual(end, ("done", [2, 4, 5], 5))
        self.assertIsInstance(end[1], list)
        self.assertEqual(box.frames(), [[1, 6, 3, 4], [8, 9, 0, 8], [10, 2, 12, 13]])
        self.assertEqual(box.specials(), {**SPECIALS, "was": 5})
        self.assertEqual(box.outs(), {"tty": [2], "net": []})
        self.assertEqual(box.answers(), {"tty": [0, 15], "net": []})

    def test_steps_go_on_where_the_last_one_ended(self):
        box = box_for((("in", A, "tty"), ("out", "tty", A), ("get", B, "was"), ("put", "was", A)))
        told = [box.bare(self.mapping, [0, 0, 0], 0)[1] for _ in range(4)]
        self.assertEqual(told, [[4, SPECIALS["was"], 0], [0, 4, 0], [15, 0, 0], [0, 15, 0]])
        self.assertEqual(box.outs(), {"tty": [4, 0, 15, 0], "net": []})
        self.assertEqual(box.answers(), {"tty": [], "net": []})
        box.give("tty", 9)
        self.assertEqual(box.bare(self.mapping, [0, 0, 0], 0)[1], [9, 0, 0])

    def test_refused_ahead_of_the_instruction(self):
        box = box_for(())
        for mapping, pc in (({}, 0), ({0: (1, "rw")}, 1), ({0: (1, "")}, 0), ({1: (1, "rwx")}, 3), ({0: (1, "x")}, 4)):
            self.assertEqual(box.bare(mapping, [0, 0, 0], pc), ("refused", pc, "x"))
        self.assertEqual(box, box_for(()))

    def test_refused_rows(self):
        changes = (("move", A, B), ("out", "tty", A), ("in", A, "tty"), ("put", "fault", B), ("store", C, B))
        for row, address, right in ((("load", T0, B), 2, "r"), (("store", B, C), 2, "w")):
            box = box_for(changes + (row,))
            registers = [1, address, 4]
            self.assertEqual(box.bare(self.mapping, registers, 0), ("refused", address, right))
            self.assertEqual(box, box_for(changes + (row,)))
            self.assertEqual(registers, [1, address, 4])

    def test_rights_of_a_mapping(self):
        load, store = (("load", A, B),), (("store", B, A),)
        for rights in ("", "r", "w", "x", "rw", "wr", "xr", "xwr", "rrr", "wx"):
            mapping = {0: (1, "x"), 1: (2, rights)}
            done, refused = ("done", [11, 5, 0], 1), ("refused", 5, "r")
            self.assertEqual(box_for(load).bare(mapping, [0, 5, 0], 0), done if "r" in rights else refused)
            done, refused = ("done", [0, 5, 0], 1), ("refused", 5, "w")
            self.assertEqual(box_for(store).bare(mapping, [0, 5, 0], 0), done if "w" in rights else refused)
            done, refused = ("done", [0, 0, 0], 5), ("refused", 4, "x")
            frames = [[1, 6, 3, 4], [8, 9, 0, 8], [9, 11, 12, 13]]
            told = box_for((), frames=frames).bare(mapping, [0, 0, 0], 4)
            self.assertEqual(told, done if "x" in rights else refused)

    def test_no_code(self):
        box = box_for(())
        self.assertEqual(box.bare(self.mapping, [0, 0, 0], 2), ("code",))
        self.assertEqual(box.bare(self.mapping, [0, 0, 0], 12), ("code",))
        self.assertEqual(box, box_for(()))

    def test_trap(self):
        rows = (("out", "net", A), ("in", A, "tty"), ("store", B, B), ("put", "was", A), ("trap", "oops"))
        box = box_for(rows)
        self.assertEqual(box.bare(self.mapping, [1, 5, 0], 0), ("trap", "oops"))
        self.assertEqual(box, box_for(rows))

    def test_user_rows_whatever_the_specials_are(self):
        box = box_for((("put", "mode", A), ("put", "enabled", A), ("put", "timer", A)))
        self.assertEqual(box.bare(self.mapping, [7, 0, 0], 0), ("done", [7, 0, 0], 1))
        self.assertEqual(box.specials(), {**SPECIALS, "mode": 7, "enabled": 7, "timer": 7})
        self.assertEqual(box.bare(self.mapping, [1, 0, 0], 0), ("done", [1, 0, 0], 1))
        self.assertEqual(box.specials(), {**SPECIALS, "mode": 1, "enabled": 1, "timer": 1})
        box.set_special("mode", 0)
        self.assertEqual(box.special("mode"), 0)

    def test_get_tells_the_specials_of_the_box(self):
        for name in NAMES:
            box = box_for((("get", A, name),))
            self.assertEqual(box.bare(self.mapping, [14, 0, 0], 0), ("done", [SPECIALS[name], 0, 0], 1))

    def test_the_mapping_counts_and_not_the_tables(self):
        rows = (("store", A, B), ("load", C, A))
        box = box_for(rows)
        # Page 3 leads to frame 0, where the tables of a machine would be.
        self.assertEqual(box.bare(self.mapping, [12, 7, 0], 0), ("done", [12, 7, 7], 1))
        self.assertEqual(box.frames()[0], [7, 6, 3, 4])
        self.assertEqual(box.bare({0: (1, "x"), 3: (0, "r")}, [12, 7, 0], 0), ("refused", 12, "w"))

    def test_two_pages_of_one_frame(self):
        box = box_for((("store", A, B), ("load", C, B)))
        mapping = {0: (1, "x"), 1: (2, "w"), 2: (2, "r")}
        self.assertEqual(box.bare(mapping, [5, 9, 0], 0), ("done", [5, 9, 9], 1))

    def test_pc_behind_the_last_word(self):
        box = box_for(())
        self.assertEqual(box.bare({3: (1, "x")}, [1, 2, 3], 15), ("done", [1, 2, 3], 0))
        self.assertEqual(box.bare({3: (1, "x")}, [1, 2, 3], 12), ("done", [1, 2, 3], 13))
        self.assertEqual(box.bare({2: (1, "x")}, [1, 2, 3], 11), ("done", [1, 2, 3], 12))

    def test_nothing_passed_is_changed_or_kept(self):
        box = box_for((("move", A, B), ("store", C, B)))
        mapping, registers = {0: (1, "x"), 1: (2, "rw")}, [1, 2, 5]
        end = box.bare(mapping, registers, 0)
        self.assertEqual((mapping, registers), ({0: (1, "x"), 1: (2, "rw")}, [1, 2, 5]))
        self.assertIsNot(end[1], registers)
        other = box_for(())
        self.assertIsNot(other.bare(mapping, registers, 0)[1], registers)
        frames = box.frames()
        spoil([end, registers, mapping])
        self.assertEqual(box.frames(), frames)
        self.assertEqual(box.bare(self.mapping, (1, 2, 5), 0), ("done", [2, 2, 5], 1))


class BoxesOfMachines(unittest.TestCase):
    def test_parts(self):
        specials = {name: 3 + k for k, name in enumerate(NAMES)}
        machine = made(
            MEANING, specials=specials, outs={"tty": [1], "net": [2]}, count=5, lines=(1,), arrivals=[(0, 1)], pc=3,
            answers={"tty": [(0, 7), (5, 8), (5, 7), (6, 9)], "net": [(6, 1), (7, 2)]},
        )
        box = box_of(machine)
        self.assertEqual(box, Box(MEANING, some_frames(), {**specials, "mode": 0}, {"tty": [7, 8, 7], "net": []}))
        self.assertEqual(box.meaning(), MEANING)
        self.assertEqual(box.special("mode"), 0)
        self.assertEqual(box.outs(), {"tty": [], "net": []})

    def test_the_machine_stays(self):
        machine = going((("store", A, B),), registers=[5, 7, 0], answers={"tty": [(0, 7)], "net": []})
        box = box_of(machine)
        box.poke(0, 0, 9)
        box.set_special("was", 9)
        box.give("tty", 9)
        box.bare({0: (1, "x"), 1: (2, "w")}, [5, 7, 0], 0)
        self.assertEqual(machine, going((("store", A, B),), registers=[5, 7, 0], answers={"tty": [(0, 7)], "net": []}))
        self.assertEqual(box_of(machine).frames(), some_frames())

    def test_book_without_ports(self):
        meaning = Meaning(Book(1, [], [], [], []), 2, 2, {}, {}, {})
        box = Box(meaning, [[0, 1]], some_specials(), {})
        self.assertEqual((box.answers(), box.outs(), box.bare({0: (0, "x")}, [3], 1)), ({}, {}, ("code",)))


if __name__ == "__main__":
    unittest.main()
