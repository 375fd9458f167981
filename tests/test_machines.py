"""Machines: S2.1, Machine, fresh, answered, arrived and poked."""

import unittest

from samples import ENTRIES, NAMES, ODD, assert_new, made, one_book, one_meaning, some_frames, some_parts, some_specials
from samples import spoil, with_changes
from worldsalone.bare import box_of
from worldsalone.books import Book
from worldsalone.errors import BadMachine, NotThere, UnknownName
from worldsalone.machines import SPECIALS, Machine, answered, arrived, fresh, poked
from worldsalone.meanings import Meaning

MEANING = one_meaning(one_book(()))
PARTS = ("frames", "registers", "pc", "specials", "is_out", "lines", "outs", "answers", "arrivals", "count")
FULL = {
    "frames": some_frames() + [[0, 15, 0, 15]],
    "registers": [1, 0, 15],
    "pc": 14,
    "specials": {name: 10 + k % 6 for k, name in enumerate(NAMES)},
    "is_out": True,
    "lines": (0, 3, 15),
    "outs": {"tty": [4, 4, 0], "net": []},
    "answers": {"tty": [(0, 3), (5, 15), (5, 0)], "net": [(9, 9)]},
    "arrivals": [(2, 7), (2, 7), (40, 0)],
    "count": 5,
}


def full(**told):
    """A machine of which each part tells something."""
    return made(MEANING, **{**FULL, **told})


class Parts(unittest.TestCase):
    def test_specials(self):
        self.assertEqual(SPECIALS, NAMES)

    def test_parts_are_told(self):
        machine = full()
        for name, part in FULL.items():
            self.assertEqual(getattr(machine, name)(), part, name)
        self.assertEqual(machine.meaning(), MEANING)
        self.assertIs(machine.is_out(), True)
        self.assertIs(made(MEANING).is_out(), False)

    def test_kinds_of_what_is_told(self):
        machine = full(
            frames=tuple([tuple(frame) for frame in some_frames()]), registers=(1, 2, 3), outs={"tty": (4,), "net": ()},
            answers={"net": ((9, 9),), "tty": ()}, arrivals=((2, 7),),
        )
        self.assertEqual(machine.frames(), some_frames())
        self.assertEqual(machine.registers(), [1, 2, 3])
        self.assertEqual(machine.outs(), {"tty": [4], "net": []})
        self.assertEqual(machine.answers(), {"tty": [], "net": [(9, 9)]})
        self.assertEqual(machine.arrivals(), [(2, 7)])
        self.assertEqual(machine.lines(), (0, 3, 15))

    def test_mixed_lists_and_tuples_are_equal(self):
        other = full(
            frames=(*[tuple(frame) for frame in FULL["frames"]],), registers=tuple(FULL["registers"]),
            outs={"net": (), "tty": (4, 4, 0)}, arrivals=tuple(FULL["arrivals"]),
            answers={"net": tuple(FULL["answers"]["net"]), "tty": tuple(FULL["answers"]["tty"])},
        )
        self.assertTrue(full() == other)

    def test_parts_are_new(self):
        machine = full()
        for name in ("frames", "registers", "specials", "outs", "answers", "arrivals"):
            assert_new(self, getattr(machine, name))
            spoil(getattr(machine, name)())
        self.assertEqual(machine, full())

    def test_what_is_passed_stays_and_may_be_changed_afterwards(self):
        parts = {name: getattr(full(), name)() for name in PARTS}
        machine = Machine(MEANING, *parts.values())
        self.assertEqual(parts, FULL)
        spoil(parts)
        self.assertEqual(machine, full())

    def test_shared_lists_are_told_apart(self):
        shared = [1, 2, 3, 4]
        machine = made(MEANING, frames=[shared, shared], outs={"tty": shared, "net": shared})
        assert_new(self, machine.frames)
        assert_new(self, machine.outs)

    def test_words(self):
        machine = full()
        for frame, words in enumerate(FULL["frames"]):
            self.assertEqual([machine.word(frame, place) for place in range(4)], words)
        for thing in ODD + (4, 10 ** 39, "0", (0,)):
            for place in (0, 9, None):
                with self.assertRaises(NotThere) as caught:
                    machine.word(thing, place)
                self.assertIs(caught.exception.number, thing)
        for thing in ODD + (4, 10 ** 39, "0", (0,)):
            with self.assertRaises(NotThere) as caught:
                machine.word(3, thing)
            self.assertIs(caught.exception.number, thing)

    def test_one_special(self):
        for name in NAMES:
            self.assertEqual(full().special(name), FULL["specials"][name])
        for thing in ODD + ("pc", "Mode", 0, ("mode",), ["mode"]):
            with self.assertRaises(UnknownName) as caught:
                full().special(thing)
            self.assertIs(caught.exception.name, thing)

    def test_modes(self):
        self.assertIs(made(MEANING).is_user(), True)
        for mode in (1, 2, 15):
            self.assertIs(made(MEANING, specials=some_specials(mode=mode)).is_user(), False)


class WrongParts(unittest.TestCase):
    def refuse(self, word, **told):
        with self.assertRaises(BadMachine, msg=f"{word} {told}") as caught:
            made(MEANING, **told)
        self.assertEqual(caught.exception.word, word)

    def refuse_each(self, word, things):
        for thing in things:
            self.refuse(word, **{word: thing})

    def test_frames(self):
        right = [1, 2, 3, 4]
        self.refuse_each("frames", ODD + (right, {0: right}, [right, None], [right, "abcd"], [right, [1, 2, 3]], "", None))
        self.refuse_each("frames", ([right, [1, 2, 3, 4, 5]], [right, []], [[], right], [right, {0: 1, 1: 1, 2: 1, 3: 1}]))
        for word in (16, -1, True, False, None, "1", (1,), [1]):
            self.refuse("frames", frames=[right, [1, 2, word, 4]])
            self.refuse("frames", frames=[[word, 2, 3, 4], right])

    def test_registers(self):
        self.refuse_each("registers", ODD + ([1, 2], [1, 2, 3, 4], [], "abc", {0: 1, 1: 1, 2: 1}))
        for word in (16, -1, True, False, None, "1", (1,)):
            self.refuse_each("registers", ([word, 2, 3], [1, 2, word]))

    def test_pc(self):
        self.refuse_each("pc", ODD + (16, 10 ** 39, "0", (0,), [0]))
        self.assertEqual(made(MEANING, pc=15).pc(), 15)

    def test_specials(self):
        self.refuse_each("specials", ODD + ([0] * 9, list(NAMES), tuple(NAMES), list(some_specials().items())))
        for name in NAMES:
            less = {other: 0 for other in NAMES if other != name}
            self.refuse_each("specials", (less, {**less, "more": 0}, {**some_specials(), "more": 0}))
            for word in (16, -1, True, False, None, "0", (0,)):
                self.refuse("specials", specials={**some_specials(), name: word})
        self.refuse("specials", specials={**some_specials(), 0: 0})

    def test_flag(self):
        self.refuse_each("is_out", [thing for thing in ODD if thing is not True and thing is not False] + [0, 1])

    def test_lines(self):
        things = [thing for thing in ODD if thing != () and thing != (1,)]
        self.refuse_each("lines", things + [[1, 2], (1, 1), (2, 1), (0, 1, 2, 2), (0, 2, 1), {1: 1}, "12", 3])
        for word in (16, -1, True, None, "1", (1,)):
            self.refuse_each("lines", ((word,), (0, word), (word, 15)))
        self.refuse("lines", lines=(False, 1))

    def test_outs(self):
        self.refuse_each("outs", ODD + ([[], []], ["tty", "net"], {"tty": []}, {"net": []}, {"tty": [], "more": []}))
        self.refuse_each("outs", ({"tty": [], "net": [], "more": []}, {"tty": [], "net": [], 0: []}))
        for words in (None, "", "1", 1, {}, {1: 1}, [16], [-1], [1, True], [None], ["1"], [[1]], [(0, 1)]):
            self.refuse("outs", outs={"tty": [1], "net": words})
            self.refuse("outs", outs={"tty": words, "net": [1]})

    def wrong_pairs(self):
        things = (None, "", 1, {}, {0: 1}, [1], [[0, 1]], [(0,)], [(0, 1, 2)], [()], [None], ["01"], [(0, 16)], [(0, -1)])
        things += ([(-1, 1)], [(True, 1)], [(0, True)], [(None, 1)], [(0, None)], [("0", 1)], [(0, "1")], [((0,), 1)])
        return things + ([(1, 1), (0, 1)], [(0, 1), (5, 1), (4, 1)], [(0, 1), (7, 1), (7, 2), (6, 3)], [(0, 1), [0, 1]])

    def test_answers(self):
        self.refuse_each("answers", ODD + ([[], []], {"tty": []}, {"tty": [], "more": []}))
        self.refuse("answers", answers={"tty": [], "net": [], "more": []})
        for pairs in self.wrong_pairs():
            self.refuse("answers", answers={"tty": [(0, 1)], "net": pairs})
            self.refuse("answers", answers={"tty": pairs, "net": [(0, 1)]})

    def test_arrivals(self):
        self.refuse_each("arrivals", [thing for thing in ODD if thing != [] and thing != ()])
        self.refuse_each("arrivals", self.wrong_pairs())

    def test_count(self):
        self.refuse_each("count", ODD + ("0", (0,), [0]))
        self.assertEqual(made(MEANING, count=10 ** 39).count(), 10 ** 39)

    def test_the_first_wrong_part_is_told(self):
        for k, word in enumerate(PARTS):
            self.refuse(word, **{name: None for name in PARTS[k:]})
            for later in PARTS[k + 1:]:
                self.refuse(word, **{word: None, later: None})

    def test_counts_that_are_allowed(self):
        pairs = [(0, 1), (0, 2), (7, 3), (10 ** 39, 4), (10 ** 39, 4)]
        machine = made(MEANING, answers={"tty": pairs, "net": []}, arrivals=pairs, count=3)
        self.assertEqual(machine.answers(), {"tty": pairs, "net": []})
        self.assertEqual(machine.arrivals(), pairs)

    def test_book_without_ports(self):
        meaning = Meaning(Book(1, [], [], [], []), 4, 1, {}, {}, {})
        machine = Machine(meaning, [[0, 1, 2, 3]], [3], 2, some_specials(), False, (), {}, {}, [], 0)
        self.assertEqual((machine.outs(), machine.answers()), ({}, {}))
        with self.assertRaises(BadMachine) as caught:
            Machine(meaning, [[0, 1, 2, 3]], [3], 2, some_specials(), False, (), {"tty": []}, {}, [], 0)
        self.assertEqual(caught.exception.word, "outs")


class Equality(unittest.TestCase):
    def test_equal(self):
        self.assertTrue(full() == full())
        self.assertFalse(full() != full())
        self.assertTrue(full() == Machine(one_meaning(one_book(())), *FULL.values()))

    def test_unlike_in_one_part(self):
        others = {
            "frames": some_frames() + [[0, 15, 0, 14]], "registers": [1, 0, 14], "pc": 13,
            "specials": {**FULL["specials"], "fault": 0}, "is_out": False, "lines": (0, 3),
            "outs": {"tty": [4, 4, 0], "net": [0]}, "answers": {"tty": [(0, 3), (5, 15), (6, 0)], "net": [(9, 9)]},
            "arrivals": [(2, 7), (40, 0)], "count": 6,
        }
        self.assertEqual(set(others), set(PARTS))
        for name, part in others.items():
            self.assertFalse(full() == full(**{name: part}), name)
            self.assertTrue(full() != full(**{name: part}), name)

    def test_unlike_meanings(self):
        other = Meaning(MEANING.book(), 4, 4, {}, ENTRIES, {8: ("go", (0, 1, 2)), 9: ("nop", ())})
        self.assertFalse(full() == Machine(other, *FULL.values()))

    def test_equal_to_nothing_else(self):
        for thing in ODD + (MEANING, box_of(full()), tuple(FULL.values()), FULL):
            self.assertFalse(full() == thing)


class Makers(unittest.TestCase):
    def test_fresh(self):
        frames, registers, specials = some_frames(), [1, 2, 3], some_specials(timer=3, mode=2)
        machine = fresh(MEANING, frames, registers, 7, specials)
        self.assertEqual(machine, made(MEANING, registers=[1, 2, 3], pc=7, specials=some_specials(timer=3, mode=2)))
        self.assertEqual((frames, registers, specials), (some_frames(), [1, 2, 3], some_specials(timer=3, mode=2)))
        spoil([frames, registers, specials])
        self.assertEqual(machine.frames(), some_frames())
        self.assertEqual(fresh(MEANING, ((1, 2, 3, 4),), (1, 2, 3), 7, some_specials()).frames(), [[1, 2, 3, 4]])

    def test_fresh_refuses_as_machine_does(self):
        right = [some_frames(), [0, 0, 0], 0, some_specials()]
        for k, word in enumerate(("frames", "registers", "pc", "specials")):
            for thing in ODD:
                parts = right[:k] + [thing] + [None] * (3 - k)
                with self.assertRaises(BadMachine) as caught:
                    fresh(MEANING, *parts)
                self.assertEqual(caught.exception.word, word)

    def test_answered(self):
        machine = full()
        told = answered(machine, "tty", 8)
        expected = {"tty": [(0, 3), (5, 15), (5, 0), (5, 8)], "net": [(9, 9)]}
        self.assertEqual(told, full(answers=expected))
        self.assertEqual(machine, full())
        told = answered(answered(told, "net", 0), "net", 15)
        self.assertEqual(told.answers(), {**expected, "net": [(5, 0), (5, 15), (9, 9)]})
        early = answered(full(count=4), "tty", 8)
        self.assertEqual(early.answers()["tty"], [(0, 3), (4, 8), (5, 15), (5, 0)])
        self.assertEqual(answered(made(MEANING), "net", 2).answers(), {"tty": [], "net": [(0, 2)]})
        late = answered(full(count=10 ** 20), "tty", 8)
        self.assertEqual(late.answers()["tty"], [(0, 3), (5, 15), (5, 0), (10 ** 20, 8)])

    def test_answered_refuses(self):
        for thing in ODD + ("more", "mode", ("tty",), ["tty"], 0):
            for word in (0, None, 16):
                with self.assertRaises(UnknownName) as caught:
                    answered(full(), thing, word)
                self.assertIs(caught.exception.name, thing)
        for thing in ODD + (16, "0", (0,)):
            with self.assertRaises(BadMachine) as caught:
                answered(full(), "tty", thing)
            self.assertEqual(caught.exception.word, "answers")

    def test_arrived(self):
        machine = full()
        self.assertEqual(arrived(machine, 0), full(arrivals=[(2, 7), (2, 7), (5, 0), (40, 0)]))
        self.assertEqual(machine, full())
        self.assertEqual(arrived(full(count=40), 15).arrivals(), [(2, 7), (2, 7), (40, 0), (40, 15)])
        self.assertEqual(arrived(full(count=1), 15).arrivals(), [(1, 15), (2, 7), (2, 7), (40, 0)])
        self.assertEqual(arrived(arrived(made(MEANING), 3), 3).arrivals(), [(0, 3), (0, 3)])

    def test_arrived_refuses(self):
        for thing in ODD + (16, "0", (0,)):
            with self.assertRaises(BadMachine) as caught:
                arrived(full(), thing)
            self.assertEqual(caught.exception.word, "arrivals")

    def test_poked(self):
        machine = full()
        expected = FULL["frames"][:2] + [[10, 11, 12, 0]] + FULL["frames"][3:]
        self.assertEqual(poked(machine, 2, 3, 0), full(frames=expected))
        self.assertEqual(machine, full())
        self.assertEqual(poked(machine, 2, 3, 13), machine)
        self.assertEqual(poked(machine, 0, 0, 15).word(0, 0), 15)

    def test_poked_refuses(self):
        for thing in ODD + (4, "0", (0,)):
            for rest in ((0, 0), (None, None), (4, 16)):
                with self.assertRaises(NotThere) as caught:
                    poked(full(), thing, *rest)
                self.assertIs(caught.exception.number, thing)
            for word in (0, None, 16):
                with self.assertRaises(NotThere) as caught:
                    poked(full(), 0, thing, word)
                self.assertIs(caught.exception.number, thing)
        for thing in ODD + (16, "0", (0,)):
            with self.assertRaises(BadMachine) as caught:
                poked(full(), 0, 0, thing)
            self.assertEqual(caught.exception.word, "frames")

    def test_samples_say_what_they_change(self):
        self.assertEqual(with_changes(full(), pc=1, specials={"was": 1}), full(pc=1, specials={**FULL["specials"], "was": 1}))
        self.assertEqual(some_parts(pc=3)["pc"], 3)


if __name__ == "__main__":
    unittest.main()
