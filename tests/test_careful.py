"""Careful choices: S7.2 and S7.5, and the interface of worldsalone/careful.py."""

import random
import unittest

from drawnhosts import drawn_choice, drawn_machine
from hosts import BOOK, DOUBTED, HELP, MEANING, NO_STOP, host_of, machine_of, untrue, whole
from samples import A, ODD, T0, assert_new, some_specials, with_changes
from worldsalone.bare import Box
from worldsalone.books import Book
from worldsalone.careful import careful_choice, careful_step, sound_list
from worldsalone.choices import can_do
from worldsalone.deciding import is_right
from worldsalone.errors import UnknownWorld
from worldsalone.host import Host
from worldsalone.machines import Machine
from worldsalone.meanings import Meaning
from worldsalone.worlds import alone, alone_told

OUT = (("out", "tty", A),)
MODE = (("get", A, "mode"),)


class SoundList(unittest.TestCase):
    def book(self, *entries):
        return Book(2, [], ["help"], ["tty"], list(entries))

    def test_the_book_of_hosts(self):
        self.assertEqual(sound_list(BOOK), DOUBTED)

    def test_wrong_for_one_mode_and_for_both(self):
        good = ("good", 1, (("goto", A),), (("goto", A),))
        user = ("user", 1, OUT, OUT)
        system = ("system", 1, MODE, MODE)
        unlike = ("unlike", 1, (), (("goto", A),))
        trapped = ("trapped", 1, HELP, OUT)
        self.assertEqual(sound_list(self.book(good)), [])
        self.assertEqual(sound_list(self.book(user)), ["user"])
        self.assertEqual(sound_list(self.book(system)), ["system"])
        self.assertEqual(sound_list(self.book(good, user, trapped, system, unlike)), ["user", "system", "unlike"])
        self.assertEqual(sound_list(self.book(unlike, system, good, user)), ["unlike", "system", "user"])
        self.assertEqual(sound_list(self.book(("other", 1, (), OUT), trapped)), ["other"])
        # This one is wrong for user mode alone: there the machine looks at its own special.
        looks = (("get", T0, "was"), ("if", T0, HELP, ()))
        self.assertEqual(sound_list(self.book(("looks", 1, looks, ()), ("late", 1, looks, looks))), ["looks", "late"])
        self.assertEqual([is_right(self.book(("looks", 1, looks, ())), "looks", mode) for mode in ("user", "system")], [False, True])

    def test_a_book_without_instructions(self):
        self.assertEqual(sound_list(Book(1, [], [], [], [])), [])

    def test_lists_are_new(self):
        assert_new(self, lambda: sound_list(BOOK))


class Choice(unittest.TestCase):
    def check(self, told, machine, doubted=DOUBTED, meaning=MEANING, before=()):
        host = host_of(machine, doubted=doubted, meaning=meaning)
        for choice in before:
            host.do(choice)
        kept = whole(host)
        self.assertEqual(careful_choice(host, 0), told)
        self.assertEqual(whole(host), kept)
        return host

    def test_a_frame_that_is_not_covered(self):
        for names in (("bad",), ("inc", "bad"), ("inc", "wild", "bad"), ("nop", "nop", "nop", "nop", "nop", "nop", "nop", "wild")):
            for meaning in (MEANING, NO_STOP):
                self.check(("patch", 0, 0), machine_of(*names, meaning=meaning), meaning=meaning)

    def test_a_frame_that_contains_no_doubtful_word(self):
        self.check(("step", 0), machine_of("inc", "nop"))
        self.check(("step", 0), machine_of("inc", "bad"), doubted=[])
        self.check(("step", 0), machine_of("inc", "bad"), doubted=["wild"])
        # Words that stop are not doubtful.
        self.check(("step", 0), machine_of("svc", "read", "late"), doubted=["svc", "read"])
        self.check(("patch", 0, 0), machine_of("svc", "read", "late"), doubted=["svc", "late"])

    def test_a_frame_that_has_a_copy_or_is_closed(self):
        for meaning in (MEANING, NO_STOP):
            machine = machine_of("inc", "bad", meaning=meaning)
            self.check(("step", 0), machine, meaning=meaning, before=[("patch", 0, 0)])
            self.check(("patch", 0, 0), machine, meaning=meaning, before=[("patch", 0, 0), ("unpatch", 0, 0)])
            self.check(("patch", 0, 0), machine, meaning=meaning, before=[("patch", 0, 1)])

    def test_the_page_is_that_of_the_address(self):
        frames = ([14] * 8, [29] * 8)
        self.check(("patch", 0, 1), machine_of("inc", frames=frames, pc=8))
        self.check(("patch", 0, 1), machine_of("inc", frames=frames, pc=15))
        self.check(("patch", 0, 2), machine_of("inc", frames=frames, pc=16))
        self.check(("step", 0), machine_of("inc", frames=frames, pc=7))
        self.check(("patch", 0, 3), machine_of("bad", table=(0, 0, 0, 1), pc=24))

    def test_an_address_that_is_refused(self):
        for table in ((0, 2, 3, 4), (13, 2, 3, 4), (9, 2, 3, 4), (8, 2, 3, 4)):
            self.check(("step", 0), machine_of("bad", table=table, frames=([29] * 8, [29] * 8)))
        self.check(("step", 0), machine_of("bad", specials={"table": 30}))

    def test_both_modes(self):
        for mode, told in ((0, ("step", 0)), (1, ("patch", 0, 0)), (31, ("patch", 0, 0))):
            self.check(told, machine_of("bad", table=(7, 2, 3, 4), specials={"mode": mode}))
        for mode in (0, 1):
            self.check(("patch", 0, 0), machine_of("bad", specials={"mode": mode}))

    def test_also_where_the_next_step_is_due_to_be_a_trap(self):
        for parts in ({"lines": (3,)}, {"arrivals": [(0, 3)]}, {"is_out": True}):
            for names, told in ((("bad",), ("patch", 0, 0)), (("inc",), ("step", 0))):
                host = self.check(told, machine_of(*names, specials={"enabled": 1}, **parts))
                self.assertEqual(careful_step(host, 0)[-1], ("step", 0))
                self.assertEqual(host.counts(0), (1, 0, 0))

    def test_the_words_as_they_are_now_count(self):
        host = host_of(machine_of("inc", "st", registers=(29, 16, 0, 0), table=(1, 1, 3, 4), specials={"mode": 1}))
        self.assertEqual(careful_choice(host, 0), ("step", 0))
        host.write_word(0, 1, 7, 29)
        self.assertEqual(careful_choice(host, 0), ("patch", 0, 0))
        host.do(("patch", 0, 0))
        self.assertEqual(careful_choice(host, 0), ("step", 0))
        host.write_word(0, 1, 6, 14)
        self.assertEqual(careful_choice(host, 0), ("patch", 0, 0))

    def test_each_world_for_itself(self):
        host = host_of(machine_of("inc"), machine_of("bad"))
        self.assertEqual([careful_choice(host, w) for w in (0, 1)], [("step", 0), ("patch", 1, 0)])


class Step(unittest.TestCase):
    def test_the_choices_that_are_made(self):
        for meaning in (MEANING, NO_STOP):
            first = machine_of("bad", "inc", specials={"mode": 3}, meaning=meaning)
            host = host_of(first, meaning=meaning)
            self.assertEqual(careful_step(host, 0), [("patch", 0, 0), ("step", 0)])
            self.assertEqual(careful_step(host, 0), [("step", 0)])
            self.assertEqual(host.log()[1:], [("patch", 0, 0), ("step", 0), ("step", 0)])
            self.assertEqual(host.counts(0)[0], 2)
            self.assertEqual(host.machine(0), alone(first, 0, host.log()))

    def test_lists_are_new(self):
        hosts = [host_of(machine_of("inc", "nop")) for _ in range(2)]
        assert_new(self, lambda: careful_step(hosts.pop(), 0))

    def test_unknown_worlds(self):
        host = host_of(machine_of("bad"), machine_of("inc"))
        host.do(("close", 1))
        kept = whole(host)
        for w in ODD + (1, 2, "0", 0.5, (0,)):
            for call in (careful_choice, careful_step):
                with self.assertRaises(UnknownWorld, msg=w) as caught:
                    call(host, w)
                self.assertIs(caught.exception.number, w)
        self.assertEqual(whole(host), kept)


class Drawn(unittest.TestCase):
    def spoiled(self, draw, meaning):
        """A drawn machine with many words of instructions that are wrong."""
        machine = drawn_machine(draw, meaning)
        frames = machine.frames()
        for k in range(1, 6):
            frames[k] = [draw.choice((word, word, 14, 29)) for word in frames[k]]
        return with_changes(machine, frames=frames)

    def test_each_machine_is_its_machine_alone(self):
        sums = {"patch": 0, "step": 0}
        for seed in range(80):
            draw = random.Random(seed)
            meaning = draw.choice((MEANING, MEANING, NO_STOP))
            doubted = draw.choice((sound_list(BOOK), DOUBTED + ["inc", "st"]))
            frames = draw.sample(range(9), draw.choice((4, 5, 8)))
            host = Host(Box(meaning, [[30] * 8 for _ in range(9)], some_specials(), {"tty": [5], "net": []}), frames, doubted)
            first = {}
            for _ in range(draw.choice((1, 2, 3))):
                machine = self.spoiled(draw, meaning)
                first[host.open_world(machine)] = machine
            specials, seen = host.box().specials(), len(host.log())
            for _ in range(40):
                choice = drawn_choice(draw, host)
                if choice[0] == "step" and can_do(host, choice):
                    w = choice[1]
                    due = alone_told(host.machine(w), w, [choice])
                    made = careful_step(host, w)
                    self.assertEqual([one[0] for one in made], ["patch"] * (len(made) - 1) + ["step"])
                    self.assertLessEqual(len(made), 2)
                    self.assertEqual(due, alone_told(first[w], w, made))
                    sums["patch"] += len(made) - 1
                    sums["step"] += 1
                elif choice[0] != "step" and can_do(host, choice):
                    host.do(choice)
                    if choice[0] == "special":
                        specials[choice[1]] = choice[2]
                self.assertIsNone(untrue(host))
                for w in host.worlds():
                    first[w] = alone(first[w], w, host.log()[seen:])
                    self.assertEqual(host.machine(w), first[w], (seed, choice))
                seen = len(host.log())
                box = host.box()
                self.assertEqual((box.specials(), box.answers(), box.outs()), (specials, {"tty": [5], "net": []}, {"tty": [], "net": []}))
        self.assertTrue(sums["patch"] > 100 and sums["step"] > 1000, sums)

    def test_without_care_it_shows(self):
        """The same machines are not their machines alone where nothing is patched."""
        seen = 0
        for seed in range(20):
            draw = random.Random(seed)
            machine = self.spoiled(draw, MEANING)
            host = host_of(machine)
            for _ in range(30):
                host.do(("step", 0))
            seen += host.machine(0) != alone(machine, 0, host.log())
        self.assertGreater(seen, 3)

    def test_small_books_that_were_drawn(self):
        rows = [(), OUT, MODE, (("put", "was", A),), (("goto", A),), (("in", A, "tty"),), (("get", T0, "table"), ("store", A, T0)),
                (("load", A, A),), HELP, (("if", A, OUT, ()),)]
        for seed in range(40):
            draw = random.Random(seed)
            entries = [(f"i{k}", 1, draw.choice(rows), draw.choice(rows)) for k in range(8)]
            book = Book(4, [("inc", 1)], ["help", "oops"], ["tty", "net"], entries)
            code = {word: (f"i{word % 8}", (word % 4,)) for word in range(12, 32)}
            meaning = Meaning(book, 8, 4, {}, {k: MEANING.entry(k) for k in range(1, 8)}, code)
            host = Host(Box(meaning, [[30] * 8 for _ in range(9)], some_specials(), {"tty": [5, 6], "net": []}), range(7), sound_list(book))
            frames = [[draw.choice((1, 2, 3, 4, 5, 7)) for _ in range(8)]] + [[draw.randrange(32) for _ in range(8)] for _ in range(6)]
            specials = some_specials(mode=draw.choice((0, 1)), handler=draw.randrange(32))
            machine = Machine(meaning, frames, [draw.randrange(32) for _ in range(4)], 0, specials, False, (),
                              {"tty": [], "net": []}, {"tty": [(0, 3)], "net": []}, [], 0)
            host.open_world(machine)
            for _ in range(30):
                careful_step(host, 0)
                self.assertEqual(host.machine(0), alone(machine, 0, host.log()), seed)
            self.assertEqual((host.box().outs()["tty"], host.box().answers()["tty"]), ([], [5, 6]))


if __name__ == "__main__":
    unittest.main()
