"""Worlds as boxes: S8.1 to S8.4, and the interface of worldsalone/nested.py."""

import random
import unittest

from drawnhosts import drawn_machine
from hosts import CODE, DOUBTED, ENTRIES, INSTRUCTIONS, MEANING, NO_STOP, both, box_of_frames, entries, host_of
from hosts import machine_of, stock_of, untrue, whole
from nestedmodel import Prediction
from samples import A, B, NAMES, ODD, T0, T1, T2, T3, assert_new, made, some_specials, spoil, with_changes
from worldsalone.bare import Box, box_of
from worldsalone.books import Book
from worldsalone.errors import BadMachine, NotThere, UnknownName, UnknownWorld
from worldsalone.host import Host
from worldsalone.machines import answered, poked
from worldsalone.meanings import Meaning
from worldsalone.nested import WorldBox, depth, together, ways

ALL = {page: (page + 1, "rwx") for page in range(4)}


def world_box(*machines, **told):
    """A host with these worlds, and the box that is made of the first one."""
    host = host_of(*machines, **told)
    return host, WorldBox(host, 0)


def places(host, w=0):
    """How the frames of a world lie."""
    return [host.where(w, k)[0] for k in range(len(host.machine(w).frames()))]


def outcome(call):
    """What a call returns, or the error that it raises, with its attributes."""
    try:
        return ("told", call())
    except Exception as error:
        return (type(error), vars(error))


class Parts(unittest.TestCase):
    def setUp(self):
        self.first = machine_of(
            "inc", frames=([5] * 8, [5] * 8), registers=(1, 2, 3, 4), specials={"mode": 3, "table": 0, "was": 9},
            answers={"tty": [(0, 5), (4, 6), (5, 7)], "net": [(9, 1)]}, outs={"tty": [1, 2], "net": []}, count=4)
        self.host, self.box = world_box(self.first)

    def test_the_parts_are_those_of_the_world(self):
        box = self.box
        self.assertEqual(box.meaning(), MEANING)
        self.assertEqual(box.frames(), self.first.frames())
        self.assertEqual(box.specials(), self.first.specials())
        self.assertEqual(box.answers(), {"tty": [5, 6], "net": []})
        self.assertEqual(box.outs(), {"tty": [1, 2], "net": []})
        for name in NAMES:
            self.assertEqual(box.special(name), self.first.special(name))
        for frame, words in enumerate(self.first.frames()):
            self.assertEqual([box.peek(frame, place) for place in range(8)], words)

    def test_they_are_those_of_the_moment(self):
        self.host.do(("step", 0))
        self.host.do(("answer", 0, "tty", 30))
        machine = self.host.machine(0)
        self.assertEqual(self.box.specials(), machine.specials())
        self.assertEqual(self.box.answers(), {"tty": [5, 6, 7, 30], "net": []})

    def test_lists_and_dicts_are_new(self):
        for call in (self.box.frames, self.box.specials, self.box.answers, self.box.outs):
            assert_new(self, call)
            spoil(call())
            assert_new(self, call)
        self.assertEqual(self.host.machine(0), self.first)

    def test_results_and_errors_are_those_of_a_box(self):
        odd = [thing for thing in ODD if not isinstance(thing, Book)] + [7, 8, 31, 32, 10 ** 39, "tty", "net", "mode", "was", "frames"]
        plain = box_of(self.first)
        plain.set_special("mode", 0)
        self.box.set_special("mode", 0)
        calls = []
        for thing in odd:
            calls += [("special", thing), ("peek", thing, 0), ("peek", 0, thing), ("peek", thing, 99), ("poke", thing, 99, 99)]
            calls += [("poke", 0, thing, 99), ("poke", 6, 0, thing), ("set_special", thing, None), ("set_special", "was", thing)]
            calls += [("set_special", "mode", thing), ("give", thing, None), ("give", "net", thing), ("poke", 7, 0, thing)]
        seen = set()
        for name, *args in calls:
            told = outcome(lambda: getattr(self.box, name)(*args))
            self.assertEqual(told, outcome(lambda: getattr(plain, name)(*args)), (name, args))
            seen.add(told[0])
        self.assertEqual(seen, {"told", NotThere, BadMachine, UnknownName})
        self.assertEqual((self.box.frames(), self.box.specials(), self.box.answers()), (plain.frames(), plain.specials(), {
            port: words for port, words in plain.answers().items()}))

    def test_nothing_is_counted_or_logged(self):
        kept = (self.host.counts(0), self.host.log())
        self.box.poke(1, 0, 3)
        self.box.set_special("table", 3)
        self.box.give("tty", 3)
        self.box.bare(ALL, [0] * 4, 0)
        self.assertEqual((self.host.counts(0), self.host.log()), kept)


class Words(unittest.TestCase):
    """Words of frames that are in, shared, aside, patched and closed."""

    def setUp(self):
        # Frames 2 and 3 have equal words and are shared; 4 is in, 5 and 6 are aside; 1 is patched.
        first = machine_of("inc", "bad", "inc", frames=([5] * 8, [5] * 8, [6] * 8), table=(1, 2, 3, 4), specials={"mode": 1})
        for meaning in (MEANING, NO_STOP):
            machine = with_changes(first) if meaning is MEANING else machine_of(
                "inc", "bad", "inc", frames=([5] * 8, [5] * 8, [6] * 8), table=(1, 2, 3, 4), specials={"mode": 1}, meaning=NO_STOP)
            host, box = world_box(machine, meaning=meaning)
            for frame in (0, 1, 2, 3, 4):
                host.do(("bring", 0, frame))
            host.do(("share",))
            host.do(("patch", 0, 0))
            if meaning is MEANING:
                self.host, self.box = host, box
            else:
                self.closed_host, self.closed_box = host, box

    def test_how_they_lie(self):
        self.assertEqual(places(self.host), ["in", "in", "shared", "shared", "in", "out", "out"])
        self.assertEqual((self.host.copies(0).copied(), self.closed_host.copies(0).closed()), ([1], [1]))

    def test_reading(self):
        for host, box in ((self.host, self.box), (self.closed_host, self.closed_box)):
            machine = host.machine(0)
            self.assertEqual(box.frames(), machine.frames())
            self.assertEqual(box.frames()[1][:3], [17, 29, 17])
            for frame in range(7):
                self.assertEqual([box.peek(frame, place) for place in range(8)], machine.frames()[frame])

    def test_writing(self):
        for frame, way in ((4, "in"), (2, "in"), (3, "in"), (5, "out"), (1, "in"), (0, "in")):
            for host, box in ((self.host, self.box), (self.closed_host, self.closed_box)):
                due = poked(host.machine(0), frame, 3, 30)
                self.assertIsNone(box.poke(frame, 3, 30))
                self.assertEqual(host.machine(0), due)
                self.assertEqual(host.where(0, frame)[0], way)
                self.assertIsNone(untrue(host))
        # The frame from which another one was parted is in alone.
        self.assertEqual(places(self.host), ["in", "in", "in", "in", "in", "out", "out"])

    def test_a_shared_frame_is_parted(self):
        self.box.poke(3, 0, 9)
        self.assertEqual((self.host.where(0, 2)[0], self.host.where(0, 3)[0]), ("in", "in"))
        self.assertEqual((self.box.peek(2, 0), self.box.peek(3, 0)), (5, 9))

    def test_a_copy_and_a_closing_end(self):
        for host, box in ((self.host, self.box), (self.closed_host, self.closed_box)):
            box.poke(1, 7, 0)
            self.assertEqual(host.copies(0).copied() + host.copies(0).closed(), [1])
            box.poke(2, 7, 0)
            self.assertEqual(host.copies(0).copied() + host.copies(0).closed(), [1])
            box.poke(1, 7, 1)
            self.assertEqual(host.copies(0).copied() + host.copies(0).closed(), [])

    def test_a_word_that_stays_changes_nothing(self):
        self.host.do(("step", 0))
        for host, box in ((self.host, self.box), (self.closed_host, self.closed_box)):
            kept = whole(host)
            for frame, words in enumerate(box.frames()):
                for place, word in enumerate(words):
                    box.poke(frame, place, word)
            self.assertEqual(whole(host), kept)

    def test_entries_that_rest_on_the_word_fall(self):
        host, box = world_box(machine_of("ld", "ld", registers=(8, 16, 0, 0)))
        host.do(("step", 0))
        host.box()
        self.assertEqual(sorted(entries(host, 0)), [0, 2])
        box.poke(0, 1, 9)
        box.poke(2, 2, 9)
        self.assertEqual(sorted(entries(host, 0)), [0, 2])
        box.poke(0, 2, 4)
        self.assertEqual(sorted(entries(host, 0)), [0])
        box.poke(0, 0, 1)
        self.assertEqual(sorted(entries(host, 0)), [0])
        box.poke(0, 0, 5)
        self.assertEqual(entries(host, 0), {})
        self.assertIsNone(untrue(host))


class SpecialsAndAnswers(unittest.TestCase):
    def stepped(self, **specials):
        host, box = world_box(machine_of("ld", "ld", registers=(8, 16, 0, 0), specials=specials))
        host.do(("step", 0))
        self.assertEqual(sorted(entries(host, 0)), [0, 2])
        return host, box

    def test_the_mapping_falls_where_table_or_mode_become_another_word(self):
        for specials, name, word, falls in (
            ({}, "table", 1, True), ({}, "table", 0, False), ({"mode": 4}, "mode", 0, True), ({}, "mode", 0, False),
            ({}, "was", 3, False), ({}, "handler", 3, False), ({}, "enabled", 3, False), ({}, "timer", 3, False),
            ({}, "back", 3, False), ({}, "cause", 3, False), ({}, "fault", 3, False), ({"mode": 4}, "was", 3, False),
        ):
            host, box = self.stepped(**specials)
            due = with_changes(host.machine(0), specials={name: word})
            self.assertIsNone(box.set_special(name, word))
            self.assertEqual(host.machine(0), due)
            self.assertEqual(len(entries(host, 0)), 0 if falls else 2, (name, word))
            self.assertIsNone(untrue(host))

    def test_a_wrong_word_changes_nothing(self):
        host, box = self.stepped(mode=4)
        kept = whole(host)
        for name, word in (("mode", 1), ("mode", 4), ("table", 32), ("table", True), ("nope", 0), ("was", None)):
            with self.assertRaises((BadMachine, UnknownName)):
                box.set_special(name, word)
        self.assertEqual(whole(host), kept)

    def test_an_answer_is_put_where_answered_puts_it(self):
        first = machine_of("inc", count=4, answers={"tty": [(2, 1), (4, 2), (7, 3)], "net": []})
        host, box = world_box(first)
        self.assertIsNone(box.give("tty", 9))
        self.assertEqual(host.machine(0), answered(first, "tty", 9))
        self.assertEqual(host.machine(0).answers()["tty"], [(2, 1), (4, 2), (4, 9), (7, 3)])
        self.assertEqual(box.answers(), {"tty": [1, 2, 9], "net": []})

    def test_nothing_else_of_the_world_changes(self):
        first = machine_of("inc", count=4, lines=(2,), arrivals=[(9, 1)], is_out=True, registers=(1, 2, 3, 4), pc=2)
        host, box = world_box(first)
        box.set_special("was", 3)
        box.give("net", 3)
        box.poke(2, 2, 3)
        self.assertEqual(host.machine(0), with_changes(poked(answered(first, "net", 3), 2, 2, 3), specials={"was": 3}))


class Closed(unittest.TestCase):
    def test_unknown_worlds(self):
        host = host_of(machine_of("inc"), machine_of("inc"))
        host.do(("close", 1))
        for w in ODD + (1, 2, "0", (0,)):
            for call in (lambda: WorldBox(host, w), lambda: together(host, w, {}), lambda: together(host, w, ALL), lambda: ways(host, w)):
                with self.assertRaises(UnknownWorld, msg=w) as caught:
                    call()
                self.assertIs(caught.exception.number, w)

    def test_each_method_behind_a_closing(self):
        host, box = world_box(machine_of("inc"), machine_of("inc"))
        inner = Host(box, range(5), [])
        host.do(("close", 0))
        calls = [box.meaning, box.frames, box.specials, box.answers, box.outs]
        for thing in (0, None, True, -1, "x", 99, "tty"):
            calls += [lambda t=thing: box.peek(t, t), lambda t=thing: box.poke(t, t, t), lambda t=thing: box.special(t)]
            calls += [lambda t=thing: box.set_special(t, t), lambda t=thing: box.give(t, t)]
        calls += [lambda: box.bare(ALL, [0] * 4, 0), lambda: box.bare({}, [0] * 4, 0), lambda: Host(box, range(5), [])]
        calls += [lambda: inner.open_world(machine_of("inc"))]
        for call in calls:
            with self.assertRaises(UnknownWorld) as caught:
                call()
            self.assertEqual(caught.exception.number, 0)
        host.open_world(machine_of("nop"))
        with self.assertRaises(UnknownWorld):
            box.frames()
        self.assertEqual(depth(box), 1)


class Bare(unittest.TestCase):
    """Bare steps against those of a box that was made of the world's machine."""

    def check(self, host, mapping, registers, pc, w=0):
        """Makes a bare step and compares all that it may change; returns its end."""
        box = WorldBox(host, w)
        machine = host.machine(w)
        plain = box_of(machine)
        others = [(v, host.machine(v), host.counts(v)) for v in host.worlds() if v != w]
        counts, log, lower = host.counts(w), host.log(), host.box().specials()
        given, passed = dict(mapping), list(registers)
        predicted = Prediction(host, w, mapping, registers, pc)
        end = box.bare(given, passed, pc)
        self.compare(host, w, predicted)
        self.assertEqual(end, plain.bare(mapping, registers, pc))
        self.assertEqual((given, passed), (dict(mapping), list(registers)))
        taken = {port: len(box_of(machine).answers()[port]) - len(plain.answers()[port]) for port in plain.answers()}
        due = with_changes(
            machine, frames=plain.frames(), specials=plain.specials(),
            outs={port: words + plain.outs()[port] for port, words in machine.outs().items()},
            answers={port: pairs[taken[port]:] for port, pairs in machine.answers().items()})
        self.assertEqual(host.machine(w), due)
        self.assertEqual((host.counts(w), host.log(), host.box().specials()), (counts, log, lower))
        self.assertEqual([(v, host.machine(v), host.counts(v)) for v in host.worlds() if v != w], others)
        self.assertIsNone(untrue(host))
        return end

    def compare(self, host, w, predicted):
        """Compares where all frames lie with what the words of S8.3 tell."""
        model, stock = predicted.model, stock_of(host)
        self.assertEqual((stock.free(), stock.full()), (model.free(), model.full), predicted.ways)
        for v in stock.worlds():
            self.assertEqual([stock.where(v, k) for k in range(stock.many(v))], [model.where((v, k)) for k in range(stock.many(v))])
            self.assertEqual([stock.where(v, ("copy", k)) for k in stock.copies(v)], [model.where((v, ("copy", k))) for k in stock.copies(v)])
        self.assertEqual(set(host.copies(w).copied() + host.copies(w).closed()), predicted.patched)
        self.seen[predicted.ways] = self.seen.get(predicted.ways, 0) + 1

    def setUp(self):
        self.seen = {}

    def test_each_instruction(self):
        for name, told in INSTRUCTIONS.items():
            for mode in (0, 3):
                for pc in (0, 3):
                    host = host_of(machine_of(name, specials={"mode": mode, "was": 5}, answers={"tty": [(0, 8), (9, 1)], "net": []},
                                              outs={"tty": [7], "net": []}, lines=(4,), is_out=True, count=2, arrivals=[(1, 3)]))
                    for registers in ([0, 8, 16, 24], [9, 17, 9, 25], [16, 16, 16, 16], [1, 0, 0, 0]):
                        self.check(host, ALL, registers, pc)
        self.assertGreater(len(INSTRUCTIONS), 10)

    def test_an_end_other_than_done_changes_nothing_but_the_mode(self):
        for name in ("svc", "table", "read"):
            host = host_of(machine_of(name, specials={"mode": 3}))
            self.assertEqual(self.check(host, ALL, [0] * 4, 0), ("trap", "help"))
            self.assertEqual(host.machine(0).special("mode"), 0)
        host = host_of(machine_of(12, specials={"mode": 3}))
        self.assertEqual(self.check(host, ALL, [0] * 4, 0), ("code",))
        host = host_of(machine_of("wild", specials={"mode": 3}))
        self.assertEqual(self.check(host, {0: (1, "rw")}, [0] * 4, 0), ("refused", 0, "x"))
        self.assertEqual(host.machine(0).special("mode"), 0)

    def test_mappings_that_lack_a_page_or_a_right(self):
        for name, mapping, told in (
            ("ld", {}, ("refused", 0, "x")),
            ("ld", {0: (1, "rw")}, ("refused", 0, "x")),
            ("ld", {0: (1, "x")}, ("refused", 9, "r")),
            ("ld", {0: (1, "x"), 1: (2, "wx")}, ("refused", 9, "r")),
            ("ld", {0: (1, "x"), 1: (2, "r")}, ("done", [2, 9, 0, 0], 1)),
            ("st", {0: (1, "x"), 1: (2, "rx")}, ("refused", 9, "w")),
            ("st", {0: (1, "x"), 1: (2, "w")}, ("done", [0, 9, 0, 0], 1)),
            ("two", {0: (1, "x"), 1: (2, "r")}, ("refused", 9, "w")),
            ("wild", {0: (1, "wr")}, ("refused", 0, "x")),
        ):
            for brought in ((), range(7)):
                host = host_of(machine_of(name))
                for frame in brought:
                    host.do(("bring", 0, frame))
                self.assertEqual(self.check(host, mapping, [0, 9, 0, 0], 0), told, name)

    def test_rights_in_any_order(self):
        host = host_of(machine_of("two", "two"))
        for rights in ("wr", "rw", "wxr"):
            self.assertEqual(self.check(host, {0: (1, "x"), 1: (2, rights), 2: (3, rights)}, [0, 9, 17, 0], 0)[0], "done")

    def test_out_frames_are_brought(self):
        host = host_of(machine_of("three"))
        self.check(host, ALL, [0, 8, 16, 24], 0)
        self.assertEqual(places(host), ["out", "in", "in", "in", "in", "out", "out"])

    def test_only_what_is_asked_for_is_brought(self):
        for name, mapping, told in (
            ("nop", ALL, [1]), ("ld", ALL, [1, 2]), ("ld", {0: (1, "rwx")}, [1]), ("svc", ALL, [1]), (12, ALL, [1]),
            ("read", ALL, [1]), ("table", ALL, [1]), ("ld", {}, []), ("ld", {1: (2, "rw")}, []), ("st", {0: (1, "x"), 1: (2, "r")}, [1]), ("late", ALL, [1]),
        ):
            host = host_of(machine_of(name))
            self.check(host, mapping, [8, 9, 0, 0], 0)
            self.assertEqual([k for k, way in enumerate(places(host)) if way != "out"], told, name)

    def test_rows_that_work_on_more_are_carried_out_by_the_host(self):
        """get, put, in and out, also inside an if that is not carried out: nothing is brought for them."""
        inner = (("if", A, (("if", A, (("get", T0, "was"),), ()),), ()),)
        other = (("if", A, (), (("out", "tty", A),)),)
        rows = {"get": (("get", A, "was"),), "put": (("put", "was", A),), "in": (("in", A, "tty"),), "out": (("out", "net", A),),
                "inner": inner, "other": other, "trap": (("put", "was", A), ("trap", "help")), "load": (("in", T0, "tty"), ("load", B, A)),
                "plain": (("if", A, (("if", A, (("load", T0, A),), ()),), ()),)}
        book = Book(4, [], ["help"], ["tty", "net"], [(name, 2, *both(*told)) for name, told in rows.items()])
        meaning = Meaning(book, 8, 4, {}, ENTRIES, {16 + k: (name, (0, 1)) for k, name in enumerate(rows)})
        for k, name in enumerate(rows):
            host = host_of(machine_of(16 + k, meaning=meaning, answers={"tty": [(0, 8)], "net": []}), meaning=meaning, doubted=[])
            for registers in ([0, 0, 0, 0], [9, 9, 0, 0]):
                self.check(host, ALL, registers, 0)
                if name != "plain":
                    self.assertEqual(places(host), ["out"] * 7, name)
            self.assertEqual(host.where(0, 1)[0], "in" if name == "plain" else "out")

    def test_a_store_into_the_frame_of_the_present_table(self):
        for brought in ((), range(7)):
            host = host_of(machine_of("st", "st", registers=(19, 0, 0, 0)))
            for frame in brought:
                host.do(("bring", 0, frame))
            host.do(("step", 0))
            self.assertEqual(self.check(host, {0: (1, "x"), 1: (0, "rw")}, [5, 9, 0, 0], 0), ("done", [5, 9, 0, 0], 1))
            self.assertEqual(host.machine(0).word(0, 1), 5)
            self.assertEqual(host.where(0, 0)[0], "in" if brought else "out")
            self.assertEqual(host.where(0, 1)[0], "in")

    def test_entries_on_the_written_cells_fall(self):
        host = host_of(machine_of("ld", "st", registers=(0, 9, 0, 0)))
        host.do(("step", 0))
        self.assertEqual(sorted(entries(host, 0)), [0, 1])
        self.check(host, {0: (1, "x"), 1: (0, "rw")}, [2, 9, 0, 0], 1)
        self.assertEqual(sorted(entries(host, 0)), [0, 1])
        self.check(host, {0: (1, "x"), 1: (0, "rw")}, [5, 9, 0, 0], 1)
        self.assertEqual(sorted(entries(host, 0)), [0])

    def test_a_store_into_a_patched_frame(self):
        for meaning in (MEANING, NO_STOP):
            for brought in ((), (2,)):
                host = host_of(machine_of("st", "st", meaning=meaning), meaning=meaning)
                for frame in brought:
                    host.do(("bring", 0, frame))
                host.do(("patch", 0, 1))
                self.check(host, ALL, [2, 8, 0, 0], 0)
                self.assertEqual(host.copies(0).copied() + host.copies(0).closed(), [2])
                self.check(host, ALL, [5, 8, 0, 0], 0)
                self.assertEqual(host.copies(0).copied() + host.copies(0).closed(), [])
                self.assertEqual(host.where(0, 2)[0], "in" if brought else "out")

    def test_a_fetch_and_a_load_from_a_patched_frame(self):
        """The words are those of the frame, not those of its copy."""
        for meaning in (MEANING, NO_STOP):
            host = host_of(machine_of("bad", frames=([29] * 8,), meaning=meaning, specials={"mode": 3}), meaning=meaning)
            for page in (0, 1):
                host.do(("patch", 0, page))
            self.assertEqual(self.check(host, ALL, [7, 0, 0, 0], 0), ("done", [0, 0, 0, 0], 1))
            self.assertEqual(self.check(host, ALL, [7, 0, 0, 0], 8), ("done", [0, 0, 0, 0], 9))
            host = host_of(machine_of("ld", frames=([29] * 8,), meaning=meaning), meaning=meaning)
            host.do(("patch", 0, 1))
            self.assertEqual(self.check(host, ALL, [7, 8, 0, 0], 0), ("done", [29, 8, 0, 0], 1))
            self.assertEqual(host.copies(0).copied() + host.copies(0).closed(), [2])

    def test_a_store_into_a_shared_frame(self):
        host = host_of(machine_of("st", "ld", frames=([5] * 8, [5] * 8)))
        for frame in (1, 2, 3):
            host.do(("bring", 0, frame))
        host.do(("share",))
        self.assertEqual(places(host), ["out", "in", "shared", "shared", "out", "out", "out"])
        self.check(host, ALL, [9, 8, 0, 0], 1)
        self.assertEqual(places(host), ["out", "in", "shared", "shared", "out", "out", "out"])
        self.check(host, ALL, [9, 8, 0, 0], 0)
        self.assertEqual(places(host), ["out", "in", "in", "in", "out", "out", "out"])

    def test_few_frames(self):
        for frames in (range(4), (11, 3, 7, 5), range(5)):
            host = host_of(machine_of("three"), machine_of("inc"), frames=frames)
            for w in (0, 1):
                for frame in range(7):
                    host.do(("bring", w, frame))
            self.check(host, ALL, [0, 8, 16, 24], 0)
            self.assertEqual(places(host)[1:5], ["in"] * 4)
            self.assertEqual(len(stock_of(host).full()), len(frames))

    def test_frames_that_were_brought_are_kept(self):
        """The one that was full for the longest time is not always the one that is emptied."""
        host = host_of(machine_of("three"), frames=range(4))
        for frame in (1, 5, 6, 0):
            host.do(("bring", 0, frame))
        self.check(host, ALL, [0, 8, 16, 24], 0)
        # Frame 1 was in at first and is brought once more when it had to go.
        self.assertEqual(places(host), ["out", "in", "in", "in", "in", "out", "out"])

    def test_no_room(self):
        """Four loads and a fetch from five frames, where the stock has four: the host carries the rows out itself."""
        rows = tuple(("load", ref, ref) for ref in (T0, T1, T2, T3))
        moves = tuple(("move", ref, ("op", k)) for k, ref in enumerate((T0, T1, T2, T3)))
        back = tuple(("move", ("op", k), ref) for k, ref in enumerate((T0, T1, T2, T3)))
        book = Book(4, [], ["help"], ["tty", "net"], [("four", 4, *both(*(moves + rows + back)))])
        meaning = Meaning(book, 5, 5, {}, {k: (k, "all", "rwx") for k in range(1, 7)}, {16: ("four", (0, 1, 2, 3))})
        frames = [[1, 2, 3, 4, 5], [16] * 5] + [[k] * 5 for k in range(2, 7)]
        machine = made(meaning, frames=frames, registers=[0] * 4, specials=some_specials())
        box = Box(meaning, [[0] * 5 for _ in range(9)], some_specials(), {"tty": [], "net": []})
        mapping = {page: (page + 1, "rwx") for page in range(5)}
        for many, told in ((4, ["out", "in", "in", "in", "in", "out", "out"]), (5, ["out", "in", "in", "in", "in", "in", "out"])):
            host = Host(box, range(many), [])
            host.open_world(machine)
            self.assertEqual(self.check(host, mapping, [5, 10, 15, 20], 0), ("done", [2, 3, 4, 5], 1))
            self.assertEqual(places(host), told)

    def test_puts_outs_and_answers(self):
        first = machine_of("wild", specials={"mode": 3}, answers={"tty": [(0, 8), (2, 9), (5, 1)], "net": []}, outs={"tty": [7], "net": []}, count=3)
        host = host_of(first)
        host.do(("step", 0))
        host = host_of(first)
        self.assertEqual(self.check(host, ALL, [4, 6, 0, 0], 0), ("done", [8, 6, 0, 0], 1))
        machine = host.machine(0)
        self.assertEqual((machine.special("mode"), machine.special("table")), (4, 6))
        self.assertEqual((machine.outs()["tty"], machine.answers()["tty"]), ([7, 4], [(2, 9), (5, 1)]))
        self.assertEqual(self.check(host, ALL, [0, 6, 0, 0], 0), ("done", [9, 6, 0, 0], 1))
        self.assertEqual(self.check(host, ALL, [0, 6, 0, 0], 0), ("done", [0, 6, 0, 0], 1))
        self.assertEqual(host.machine(0).answers()["tty"], [(5, 1)])

    def test_the_mapping_of_the_world_falls_by_puts(self):
        for registers, falls in (([0, 0, 0, 0], False), ([4, 0, 0, 0], True), ([0, 6, 0, 0], True)):
            host = host_of(machine_of("ld", "wild", registers=(8, 16, 0, 0)))
            host.do(("step", 0))
            self.assertEqual(len(entries(host, 0)), 2)
            self.check(host, ALL, registers, 1)
            self.assertEqual(entries(host, 0) == {}, falls, registers)

    def test_what_is_brought_by_then_stays_brought(self):
        host = host_of(machine_of("two"))
        self.check(host, {0: (1, "x"), 1: (2, "rw"), 2: (0, "rw")}, [5, 8, 16, 0], 0)
        self.assertEqual(places(host), ["out", "in", "in", "out", "out", "out", "out"])

    def test_drawn_states(self):
        ends = {}
        for seed in range(250):
            draw = random.Random(seed)
            meaning = draw.choice((MEANING, MEANING, NO_STOP))
            frames = draw.sample(range(12), draw.choice((4, 4, 5, 9)))
            host = Host(box_of_frames(meaning=meaning), frames, draw.choice((DOUBTED, ["inc", "st"], [])))
            for _ in range(draw.choice((1, 2))):
                machine = drawn_machine(draw, meaning)
                words = [[draw.choice((word, draw.choice(sorted(CODE)), draw.choice((14, 29, 19, 31)))) for word in frame] for frame in machine.frames()]
                host.open_world(with_changes(machine, frames=[machine.frames()[0]] + words[1:], answers={
                    "tty": [(machine.count(), draw.randrange(32)) for _ in range(draw.randrange(3))] + [(99, 1)], "net": []}))
            for _ in range(12):
                for _ in range(draw.randrange(4)):
                    kind = draw.choice(("bring", "bring", "out", "share", "patch", "step"))
                    choice = (kind,) if kind == "share" else (kind, 0) if kind == "step" else (kind, 0, draw.randrange(7 if kind != "patch" else 4))
                    if kind != "patch" or outcome(lambda: host.do(choice))[0] != "told":
                        outcome(lambda: host.do(choice))
                mapping = {page: (draw.randrange(7), draw.choice(("rwx", "rwx", "rwx", "rw", "r", "x", "wx", ""))) for page in range(4)}
                if draw.random() < 0.3:
                    del mapping[draw.randrange(4)]
                registers = [draw.choice((0, 8, 16, draw.randrange(32))) for _ in range(4)]
                end = self.check(host, mapping, registers, draw.choice((0, 8, draw.randrange(32))))
                ends[end[0]] = ends.get(end[0], 0) + 1
        self.assertTrue(len(ends) == 4 and min(ends.values()) > 50, ends)
        self.assertGreater(min(self.seen.values()), 250, self.seen)


class Together(unittest.TestCase):
    def setUp(self):
        # Frames 2 and 3 are shared, 1 and 4 are in, 5 and 6 are out.
        self.host = host_of(machine_of("inc", frames=([5] * 8, [5] * 8, [6] * 8)))
        for frame in (1, 2, 3, 4, 0):
            self.host.do(("bring", 0, frame))
        self.host.do(("share",))

    def check(self, told, mapping):
        kept = whole(self.host)
        self.assertEqual(together(self.host, 0, mapping), told)
        self.assertEqual(whole(self.host), kept)

    def at(self, frame):
        return self.host.where(0, frame)[1]

    def test_rights_by_how_frames_lie(self):
        for rights, told in (("rwx", "rwx"), ("rw", "rw"), ("wr", "rw"), ("x", "x"), ("w", "w")):
            self.check({0: (self.at(4), told)}, {0: (4, rights)})
        for rights, told in (("rwx", "rx"), ("rw", "r"), ("x", "x")):
            self.check({0: (self.at(2), told)}, {0: (2, rights)})
            self.check({0: (self.at(0), told)}, {0: (0, rights)})
        self.assertEqual(self.at(2), self.at(3))

    def test_pages_that_are_left_out(self):
        self.check({}, {})
        self.check({}, {0: (5, "rwx"), 1: (6, "r")})
        self.check({}, {0: (2, "w"), 1: (0, "w"), 2: (4, "")})
        self.check({3: (self.at(1), "r")}, {0: (5, "rwx"), 3: (1, "r"), 1: (3, "w")})

    def test_all_pages(self):
        mapping = {0: (1, "rx"), 1: (2, "rw"), 2: (5, "rw"), 3: (4, "rw")}
        self.check({0: (self.at(1), "rx"), 1: (self.at(2), "r"), 3: (self.at(4), "rw")}, mapping)

    def test_patched_frames(self):
        for meaning in (MEANING, NO_STOP):
            host = host_of(machine_of("bad", meaning=meaning), meaning=meaning)
            host.do(("bring", 0, 1))
            g = host.where(0, 1)[1]
            self.assertEqual(together(host, 0, {0: (1, "rwx")}), {0: (g, "rwx")})
            host.do(("patch", 0, 0))
            self.assertEqual(together(host, 0, {0: (1, "rwx"), 1: (1, "w")}), {0: (g, "rx")})
            host.do(("unpatch", 0, 0))
            self.assertEqual(together(host, 0, {0: (1, "rwx")}), {0: (g, "rwx")})

    def test_another_table(self):
        self.host.take_over(0, with_changes(self.host.machine(0), specials={"table": 4}))
        self.check({0: (self.at(4), "rx"), 1: (self.at(0), "rwx")}, {0: (4, "rwx"), 1: (0, "rwx")})

    def test_dicts_are_new(self):
        mapping = {0: (1, "rwx")}
        assert_new(self, lambda: together(self.host, 0, mapping))
        spoil(together(self.host, 0, mapping))
        self.assertEqual(mapping, {0: (1, "rwx")})


class Ways(unittest.TestCase):
    def nest(self, levels):
        """Hosts on boxes that are made of worlds, so many."""
        hosts = [host_of(machine_of("inc"))]
        for _ in range(levels):
            hosts.append(Host(WorldBox(hosts[-1], 0), range(2, 7), []))
            hosts[-1].open_world(machine_of("inc"))
        return hosts

    def test_depth(self):
        self.assertEqual(depth(box_of_frames()), 0)
        for k, host in enumerate(self.nest(4)):
            self.assertEqual(depth(host.box()), k)
            self.assertEqual(depth(WorldBox(host, 0)), k + 1)

    def test_one_level(self):
        (host,) = self.nest(0)
        self.assertEqual(ways(host, 0), [()] * 7)
        told = [host.do(("bring", 0, frame)) for frame in (3, 1)]
        self.assertEqual(ways(host, 0), [(), (told[1][1],), (), (told[0][1],), (), (), ()])
        assert_new(self, lambda: ways(host, 0))

    def test_down_to_the_first_box_as_far_as_no_frame_is_out(self):
        hosts = self.nest(3)
        kept = [whole(host) for host in hosts]
        self.assertEqual(ways(hosts[3], 0), [()] * 7)
        self.assertEqual([whole(host) for host in hosts], kept)
        g = hosts[3].do(("bring", 0, 4))[1]
        self.assertEqual(ways(hosts[3], 0)[4], (g,))
        for host, below in ((hosts[2], 1), (hosts[1], 2), (hosts[0], 3)):
            kept = [whole(one) for one in hosts]
            way = ways(hosts[3], 0)[4]
            self.assertEqual([whole(one) for one in hosts], kept)
            self.assertEqual(len(way), below)
            host.do(("bring", 0, way[-1]))
        way = ways(hosts[3], 0)[4]
        self.assertEqual(len(way), 4)
        self.assertEqual(hosts[0].box().frames()[way[-1]], hosts[3].machine(0).frames()[4])
        self.assertEqual(ways(hosts[2], 0)[way[0]], way[1:])
        hosts[1].do(("out", 0, way[1]))
        self.assertEqual(ways(hosts[3], 0)[4], way[:2])

    def test_a_place_of_a_frame_is_a_place_of_a_frame_of_the_first_box(self):
        hosts = self.nest(2)
        machine = hosts[2].machine(0)
        for frame in range(3):
            g = hosts[2].do(("bring", 0, frame))[1]
            hosts[0].do(("bring", 0, hosts[1].do(("bring", 0, g))[1]))
        for frame in range(3):
            way = ways(hosts[2], 0)[frame]
            self.assertEqual(len(way), 3)
            for place, word in enumerate(machine.frames()[frame]):
                self.assertEqual(hosts[0].box().peek(way[-1], place), word)


if __name__ == "__main__":
    unittest.main()
