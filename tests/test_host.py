"""Hosts: S5.1, S5.2, the five methods for boxes of worlds, and the interface of worldsalone/host.py."""

import unittest

from hosts import BOOK, DOUBTED, MEANING, NO_STOP, box_of_frames, entries, host_of, machine_of, rights, stepped
from hosts import stock_of, untrue, whole
from samples import NAMES, ODD, assert_new, some_specials, spoil, with_changes
from worldsalone.copies import Copies
from worldsalone.errors import BadMachine, NoRoom, NotThere, TwiceTold, UnknownName, UnknownWorld
from worldsalone.host import Host
from worldsalone.machines import poked
from worldsalone.mappings import Mapping
from worldsalone.meanings import Meaning


class Making(unittest.TestCase):
    def refuse(self, error, attribute, thing, frames, doubted=()):
        box = box_of_frames(6, was=3)
        with self.assertRaises(error, msg=(frames, doubted)) as caught:
            Host(box, frames, doubted)
        if attribute is not None:
            self.assertIs(getattr(caught.exception, attribute), thing)
        self.assertEqual(box, box_of_frames(6, was=3))

    def test_entries_that_are_no_frames_of_the_box(self):
        for thing in ODD + (6, 10 ** 30, "0", (0,)):
            self.refuse(NotThere, "number", thing, [0, 1, thing, 2, 3, None])
            self.refuse(NotThere, "number", thing, (thing,), [None])
            self.refuse(NotThere, "number", thing, [1, 1, thing, 7], ["nope"])

    def test_entries_told_twice(self):
        self.refuse(TwiceTold, "name", 3, [0, 3, 3, 0])
        self.refuse(TwiceTold, "name", 2, [4, 2, 1, 2, 4], ["nope"])
        self.refuse(TwiceTold, "name", 5, (5, 5))

    def test_too_few_frames(self):
        for frames in ([], [0], [5, 2], (1, 2, 3)):
            self.refuse(NoRoom, None, None, frames)
            self.refuse(NoRoom, None, None, frames, ["nope"])

    def test_names_that_are_no_instructions(self):
        for thing in ODD + ("nope", "help", ("inc",), 0):
            self.refuse(UnknownName, "name", thing, [0, 1, 2, 3], ["ld", thing, "nope"])
            self.refuse(UnknownName, "name", thing, (0, 1, 2, 3), (thing, 0))

    def test_what_may_be_passed(self):
        for frames, doubted in (([5, 0, 3, 1], []), ((0, 1, 2, 3, 4, 5), ("bad", "bad")), (range(4), DOUBTED)):
            host = Host(box_of_frames(6), list(frames), doubted)
            self.assertEqual((host.worlds(), host.log()), ([], []))
        frames, doubted = [5, 0, 3, 1], ["bad"]
        host = Host(box_of_frames(6), frames, doubted)
        frames[:] = [2, 4]
        doubted[0] = "inc"
        w = host.open_world(machine_of("bad", "inc"))
        self.assertEqual([host.do(("bring", w, k)) for k in range(4)], [("in", 0), ("in", 1), ("in", 3), ("in", 5)])
        self.assertEqual(host.copies(w), Copies(MEANING, ["bad"]))

    def test_the_mode_of_the_box(self):
        box = box_of_frames(was=4)
        host = Host(box, [0, 1, 2, 3], [])
        self.assertEqual(box.specials(), some_specials(was=4))
        self.assertIs(host.box(), box)

    def test_a_box_that_a_bare_step_left_in_another_mode(self):
        box = box_of_frames()
        box.poke(0, 0, 14)
        box.bare({0: (0, "x")}, [3, 5, 0, 0], 0)
        self.assertEqual(box.special("mode"), 3)
        with self.assertRaises(UnknownName):
            Host(box, [0, 1, 2, 3], ["nope"])
        self.assertEqual(box.special("mode"), 3)
        Host(box, [0, 1, 2, 3], [])
        self.assertEqual(box.specials(), some_specials(table=5))

    def test_frames_of_the_box_that_are_not_the_hosts(self):
        host = host_of(machine_of("inc", "st", registers=(5, 9, 0, 0)), frames=(2, 4, 6, 8))
        stepped(host, 0, 6)
        frames = host.box().frames()
        self.assertEqual([frames[g] for g in (0, 1, 3, 5, 7, 9, 10, 11)], [[31] * 8] * 8)


class Opening(unittest.TestCase):
    def test_worlds_get_the_next_numbers(self):
        host = host_of()
        self.assertEqual([host.open_world(machine_of("inc")) for _ in range(3)], [0, 1, 2])
        self.assertEqual(host.worlds(), [0, 1, 2])
        host.do(("close", 1))
        self.assertEqual((host.worlds(), host.open_world(machine_of("ld")), host.worlds()), ([0, 2], 3, [0, 2, 3]))
        host.do(("close", 3))
        self.assertEqual((host.open_world(machine_of("ld")), host.worlds()), (4, [0, 2, 4]))

    def test_a_machine_of_another_meaning(self):
        host = host_of(machine_of("inc"))
        before = whole(host)
        for meaning in (NO_STOP, Meaning(BOOK, 8, 4, {}, {}, {})):
            with self.assertRaises(BadMachine) as caught:
                host.open_world(machine_of("inc", meaning=meaning))
            self.assertEqual(caught.exception.word, "meaning")
        self.assertEqual(whole(host), before)

    def test_a_machine_of_an_equal_meaning(self):
        code = {word: MEANING.code_of(word) for word in range(32) if MEANING.code_of(word) is not None}
        told = {word: MEANING.entry(word) for word in range(32) if MEANING.entry(word) is not None}
        tables = {"inc": {(word,): (word + 1) % 32 for word in range(32)}}
        same = Meaning(BOOK, 8, 4, tables, told, code)
        host = host_of()
        self.assertEqual(host.open_world(machine_of("inc", meaning=same)), 0)
        self.assertEqual(host.machine(0), machine_of("inc"))

    def test_at_first(self):
        machine = machine_of("inc", lines=(4, 7), count=9, outs={"tty": [1], "net": []}, registers=(9, 8, 7, 6))
        host = host_of(machine)
        self.assertEqual(host.machine(0), machine)
        self.assertEqual((host.counts(0), entries(host, 0)), ((0, 0, 0), {}))
        self.assertEqual((host.mapping(0), host.copies(0)), (Mapping(), Copies(MEANING, DOUBTED)))
        self.assertEqual([host.where(0, k) for k in range(7)], [("out",)] * 7)
        self.assertEqual(host.box().frames(), [[31] * 8] * 12)
        self.assertEqual(host.log(), [("opened", 0, machine)])

    def test_a_machine_that_was_passed_never_changes(self):
        machine = machine_of("inc", "st", "read", "svc", registers=(5, 9, 0, 0))
        same = with_changes(machine)
        host = host_of(machine, machine)
        stepped(host, 0, 4)
        host.do(("answer", 0, "tty", 3))
        host.write_word(0, 2, 2, 30)
        self.assertEqual(machine, same)
        self.assertEqual((host.machine(1), host.log()[0], host.log()[1]), (same, ("opened", 0, same), ("opened", 1, same)))
        kept = host.machine(0)
        told = with_changes(kept)
        stepped(host, 0, 2)
        host.write_word(0, 2, 2, 29)
        self.assertEqual(kept, told)


class Telling(unittest.TestCase):
    def refusals(self, host):
        """The calls that refuse worlds that are not open."""
        machine = machine_of("inc")
        return (
            host.machine,
            host.counts,
            host.mapping,
            host.copies,
            lambda w: host.where(w, 0),
            lambda w: host.where(w, None),
            lambda w: host.world_word(w, 99, 99),
            lambda w: host.world_special(w, "nope"),
            lambda w: host.write_word(w, 99, 99, 3),
            lambda w: host.take_over(w, machine),
            lambda w: host.bring_frame(w, 99, True, list(range(12))),
        )

    def test_worlds_that_are_not_open(self):
        host = host_of(machine_of("inc"), machine_of("inc"))
        stepped(host, 0)
        host.do(("close", 1))
        before = whole(host)
        for call in self.refusals(host):
            for w in ODD + (1, 2, 10 ** 30, "0", (0,)):
                with self.assertRaises(UnknownWorld, msg=w) as caught:
                    call(w)
                self.assertIs(caught.exception.number, w)
        self.assertEqual(whole(host), before)

    def test_frames_that_are_not_there(self):
        host = host_of(machine_of("bad"))
        host.do(("patch", 0, 0))
        before = whole(host)
        calls = (host.where, lambda w, k: host.world_word(w, k, 99), lambda w, k: host.write_word(w, k, None, 3))
        for frame in ODD + (7, 10 ** 30, "0", (0,), ("copy", 1), ("copy", 2)):
            for call in calls:
                with self.assertRaises(NotThere, msg=frame) as caught:
                    call(0, frame)
                self.assertIs(caught.exception.number, frame)
        self.assertEqual(whole(host), before)

    def test_where(self):
        host = host_of(machine_of("inc"), machine_of("inc"))
        stepped(host, 0)
        self.assertEqual((host.where(0, 1), host.where(1, 1), host.where(0, 0)), (("in", 0), ("out",), ("out",)))
        stepped(host, 1)
        host.do(("share",))
        self.assertEqual((host.where(0, 1), host.where(1, 1)), (("shared", 0), ("shared", 0)))

    def test_twins(self):
        host = host_of(machine_of("bad", "inc"))
        stepped(host, 0)
        host.do(("patch", 0, 1))
        mapping, copies = host.mapping(0), host.copies(0)
        self.assertEqual((mapping.as_dict(), copies.copied()), ({0: (0, "x")}, [2]))
        mapping.fall_all()
        copies.patch(1)
        self.assertEqual((len(host.mapping(0)), host.copies(0).copied()), (1, [2]))
        kept = host.mapping(0)
        host.do(("drop", 0))
        self.assertEqual((len(kept), len(host.mapping(0))), (1, 0))

    def test_lists_are_new(self):
        host = host_of(machine_of("inc"), machine_of("inc"))
        stepped(host, 0)
        before = whole(host)
        for call in (host.worlds, host.log):
            assert_new(self, call)
            spoil(call())
        self.assertEqual(whole(host), before)

    def test_the_log(self):
        one, two = machine_of("read", "read", count=5), machine_of("inc")
        host = host_of(one, two)
        choices = [("step", 0), ("answer", 0, "tty", 7), ("step", 0), ("arrive", 0, 3), ("step", 1), ("answer", 1, "net", 1)]
        choices += [("bring", 0, 2), ("share",), ("out", 0, 2), ("special", "was", 3), ("patch", 1, 0), ("unpatch", 1, 0)]
        choices += [("drop", 0), ("close", 0)]
        for choice in choices:
            host.do(choice)
        three = host.open_world(two)
        noted = list(choices)
        noted[1], noted[3], noted[5] = ("answer", 0, "tty", 7, 6), ("arrive", 0, 3, 7), ("answer", 1, "net", 1, 1)
        self.assertEqual(host.log(), [("opened", 0, one), ("opened", 1, two)] + noted + [("opened", three, two)])
        self.assertTrue(all(isinstance(entry, tuple) for entry in host.log()))


class FiveMethods(unittest.TestCase):
    def setUp(self):
        # Page 0 is frame 1, page 1 frame 2, page 2 frame 3 and page 3 frame 4; 0, 1 and 2 are mapped.
        machine = machine_of("three", "ld", "bad", registers=(1, 8, 24, 16), count=3)
        self.host = host_of(machine, machine)
        stepped(self.host, 0)
        self.assertEqual(rights(self.host, 0), {0: "x", 1: "r", 2: "w", 3: "r"})
        self.log, self.counts = self.host.log(), self.host.counts(0)

    def tearDown(self):
        self.assertEqual((self.host.log(), self.host.counts(0)), (self.log, self.counts))
        self.assertIsNone(untrue(self.host))

    def test_world_word(self):
        machine = self.host.machine(0)
        for frame in range(7):
            told = [self.host.world_word(0, frame, place) for place in range(8)]
            self.assertEqual(told, [machine.word(frame, place) for place in range(8)])
        for place in ODD + (8, 10 ** 30, "0", (0,)):
            with self.assertRaises(NotThere, msg=place) as caught:
                self.host.world_word(0, 1, place)
            self.assertIs(caught.exception.number, place)

    def test_world_special(self):
        self.host.take_over(0, with_changes(self.host.machine(0), specials={"was": 5, "fault": 6}))
        told = {name: self.host.world_special(0, name) for name in NAMES}
        self.assertEqual(told, some_specials(was=5, fault=6))
        for name in ODD + ("nope", "Mode", "tty", 0):
            with self.assertRaises(UnknownName, msg=name) as caught:
                self.host.world_special(0, name)
            self.assertIs(caught.exception.name, name)

    def test_write_word(self):
        before = self.host.machine(0)
        places = [self.host.where(0, k) for k in range(7)]
        self.assertIsNone(self.host.write_word(0, 3, 2, 30))
        self.assertIsNone(self.host.write_word(0, 6, 7, 0))
        self.assertEqual(self.host.machine(0), poked(poked(before, 3, 2, 30), 6, 7, 0))
        self.assertEqual([self.host.where(0, k) for k in range(7)], places)
        self.assertEqual((self.host.world_word(0, 3, 2), self.host.world_word(0, 6, 7)), (30, 0))
        self.assertEqual(rights(self.host, 0), {0: "x", 1: "r", 2: "w", 3: "r"})
        self.assertEqual(self.host.machine(1), self.host.log()[1][2])

    def test_write_word_lets_the_entry_fall_that_rests_on_the_cell(self):
        self.host.write_word(0, 0, 1, 8)
        self.assertEqual(rights(self.host, 0), {0: "x", 2: "w", 3: "r"})
        self.host.write_word(0, 0, 7, 8)
        self.assertEqual(rights(self.host, 0), {0: "x", 2: "w", 3: "r"})

    def test_write_word_parts_a_shared_frame(self):
        self.host.do(("step", 1))
        self.host.do(("share",))
        self.log = self.host.log()
        self.assertEqual(self.host.where(0, 1)[0], "shared")
        self.assertEqual(rights(self.host, 1), {})
        stepped(self.host, 1)
        self.log = self.host.log()
        mapped = entries(self.host, 1)
        self.host.write_word(0, 1, 7, 3)
        self.assertEqual((self.host.where(0, 1)[0], self.host.where(1, 1)[0]), ("in", "in"))
        self.assertEqual(entries(self.host, 1), mapped)
        self.assertEqual((self.host.world_word(0, 1, 7), self.host.world_word(1, 1, 7)), (3, 0))
        self.assertNotIn(0, rights(self.host, 0))

    def test_write_word_of_an_equal_word(self):
        self.host.do(("step", 1))
        self.host.do(("share",))
        self.host.do(("patch", 0, 0))
        self.log = self.host.log()
        before = whole(self.host)
        for frame in range(7):
            for place in range(8):
                self.assertIsNone(self.host.write_word(0, frame, place, self.host.world_word(0, frame, place)))
        self.assertEqual(whole(self.host), before)

    def test_write_word_ends_a_copy(self):
        self.host.do(("patch", 0, 0))
        self.host.do(("step", 0))
        self.counts, self.log = self.host.counts(0), self.host.log()
        self.assertEqual((self.host.copies(0).copied(), self.host.mapping(0).entry(0)[1]), ([1], "x"))
        self.host.write_word(0, 2, 0, 31)
        self.assertEqual(self.host.copies(0).copied(), [1])
        self.host.write_word(0, 1, 7, 31)
        self.assertEqual((self.host.copies(0).copied(), stock_of(self.host).copies(0)), ([], []))
        self.assertIsNone(self.host.mapping(0).entry(0))

    def test_write_word_ends_a_closing(self):
        host = host_of(machine_of("bad", "inc", meaning=NO_STOP), meaning=NO_STOP)
        host.do(("patch", 0, 0))
        self.assertEqual(host.copies(0).closed(), [1])
        host.write_word(0, 1, 7, host.world_word(0, 1, 7))
        self.assertEqual(host.copies(0).closed(), [1])
        host.write_word(0, 1, 7, 31)
        self.assertEqual(host.copies(0).closed(), [])

    def test_take_over(self):
        frames = self.host.machine(0).frames()
        other = machine_of("svc", registers=(4, 3, 2, 1), pc=9, is_out=True, lines=(1, 5), outs={"tty": [9], "net": [8]},
                           answers={"tty": [(50, 3)], "net": []}, arrivals=[(60, 4)], count=44,
                           specials={"handler": 3, "enabled": 2, "was": 1})
        self.assertIsNone(self.host.take_over(0, other))
        self.assertEqual(self.host.machine(0), with_changes(other, frames=frames))
        self.assertEqual(rights(self.host, 0), {0: "x", 1: "r", 2: "w", 3: "r"})

    def test_take_over_lets_all_fall(self):
        def falls(**specials):
            host = host_of(machine_of("inc", specials=specials.pop("first", {})))
            stepped(host, 0)
            self.assertEqual(len(host.mapping(0)), 1)
            host.take_over(0, with_changes(host.machine(0), specials=specials))
            self.assertIsNone(untrue(host))
            return len(host.mapping(0)) == 0

        self.assertTrue(falls(mode=1))
        self.assertTrue(falls(table=3))
        self.assertTrue(falls(first={"mode": 2}, mode=0))
        self.assertFalse(falls(first={"mode": 2}, mode=3))
        self.assertFalse(falls(handler=4, back=5, was=6, cause=7, fault=8, timer=9, enabled=1))

    def test_bring_frame(self):
        self.assertEqual(self.host.bring_frame(0, 5, False, []), 4)
        self.assertEqual(self.host.bring_frame(0, 6, True, [5, 6]), 7)
        self.assertEqual((self.host.where(0, 5), self.host.where(0, 6)), (("in", 4), ("in", 7)))
        self.assertEqual(self.host.bring_frame(0, 1, True, list(range(12))), 0)
        self.assertEqual(rights(self.host, 0), {0: "x", 1: "r", 2: "w", 3: "r"})

    def test_bring_frame_lets_entries_fall(self):
        host = host_of(machine_of("three", registers=(1, 8, 16, 24)), machine_of("inc"), frames=(0, 1, 2, 3))
        stepped(host, 0)
        before = (host.log(), host.counts(0), host.counts(1))
        self.assertEqual(rights(host, 0), {0: "x", 1: "r", 2: "r", 3: "w"})
        self.assertEqual(host.bring_frame(1, 4, False, [0]), 1)
        self.assertEqual(rights(host, 0), {0: "x", 2: "r", 3: "w"})
        self.assertEqual((host.log(), host.counts(0), host.counts(1)), before)
        with self.assertRaises(NoRoom):
            host.bring_frame(1, 5, False, [0, 1, 2, 3])
        self.assertEqual(host.where(1, 5), ("out",))

    def test_bring_frame_brings_copies_for_reading(self):
        self.host.do(("patch", 0, 0))
        self.log = self.host.log()
        self.assertEqual(self.host.bring_frame(0, ("copy", 1), False, []), 4)
        for frame in ODD + (7, ("copy", 2), ("copy", True)):
            for is_writing in (False, True):
                with self.assertRaises(NotThere, msg=frame) as caught:
                    self.host.bring_frame(0, frame, is_writing, list(range(12)))
                self.assertIs(caught.exception.number, frame)
        with self.assertRaises(NotThere):
            self.host.bring_frame(0, ("copy", 1), True, [])


if __name__ == "__main__":
    unittest.main()
