"""Logs and watches: S9.6 and S9.7, and the interface of worldsalone/logs.py."""

import doctest
import random
import unittest

from drawnhosts import RIGHT, drawn_choice, drawn_machine
from hosts import DOUBTED, MEANING, NO_STOP, WornHost, host_of, machine_of, whole
from samples import ODD, assert_new, going, made, one_book, one_meaning, some_specials, spoil, with_changes
from worldsalone.bare import Box
from worldsalone.choices import can_do
from worldsalone.errors import BadChoice, BadMachine, UnknownName, UnknownWorld
from worldsalone.host import Host
from worldsalone.logs import Log, apart_at, first_when, holds, last_change, log_of, replayed
from worldsalone.machines import answered, arrived
from worldsalone.steps import run, step
from worldsalone.worlds import alone

EXAMPLE = """
>>> from worldsalone.books import Book
>>> from worldsalone.logs import Log, first_when, last_change
>>> from worldsalone.machines import fresh
>>> from worldsalone.meanings import Meaning
>>> from worldsalone.saved import difference, packed, restored_machine, saved_machine
>>> row = ("prim", ("op", 0), "inc", (("op", 0),))
>>> book = Book(1, [("inc", 1)], [], ["p"], [("up", 1, (row,), (row,))])
>>> meaning = Meaning(book, 2, 2, {"inc": {(0,): 1, (1,): 2, (2,): 3}}, {2: (1, "all", "rx")}, {1: ("up", (0,))})
>>> names = ["mode", "table", "handler", "enabled", "timer", "cause", "back", "was", "fault"]
>>> first = fresh(meaning, [[2, 0], [1, 1]], [0], 0, dict([(name, 0) for name in names]))
>>> saved_machine(first)
(((2, 0), (1, 1)), (0, 1), (0,), 0, (0, 0, 0, 0, 0, 0, 0, 0, 0), 0, (), ((),), ((),), (), 0)
>>> packed(saved_machine(first))
(2, 2, 2, 0, 1, 1, 0, 1, 0, 0, 0, 0, 0, 0, 0, 0, 0, 0, 0, 0, 0, 0, 0, 0, 0)
>>> log = Log(first)
>>> [log.machine_at(2).registers(), log.machine_at(3).pc(), first_when(log, ("register", 0, 2), 9), last_change(log, 1, 0, 9)]
[[2], 0, 2, None]
>>> difference(saved_machine(first), saved_machine(log.machine_at(1)))
((), ((1,), 1, (0, 0, 0, 0, 0, 0, 0, 0, 0), 0, (), ((),), ((),), (), 1))
>>> restored_machine(meaning, saved_machine(first)) == first
True
"""
# A machine in system mode that reads, puts out and stores what it read, step by step, on page 1.
READING = machine_of("read", "write", "st", "jmp", frames=([2] * 8,), registers=(0, 0, 0, 0), specials={"mode": 1}, count=5,
                     answers={"tty": [(5, 9)], "net": []})


class Example(unittest.TestCase):
    def test_the_example_of_the_document(self):
        test = doctest.DocTestParser().get_doctest(EXAMPLE, {}, "example", None, 0)
        told = []
        results = doctest.DocTestRunner(verbose=False).run(test, out=told.append)
        self.assertEqual((results.failed, results.attempted, told), (0, 16, []))


class Entries(unittest.TestCase):
    def setUp(self):
        self.log = Log(READING)

    def test_noting(self):
        self.assertEqual(self.log.entries(), [])
        self.assertEqual(self.log.start(), READING)
        self.assertIsNone(self.log.answer("tty", 31, 5))
        self.assertIsNone(self.log.arrive(0, 5))
        self.assertIsNone(self.log.answer("net", 3, 9))
        self.assertIsNone(self.log.arrive(31, 10 ** 39))
        told = [("answer", 5, "tty", 31), ("arrive", 5, 0), ("answer", 9, "net", 3), ("arrive", 10 ** 39, 31)]
        self.assertEqual(self.log.entries(), told)
        assert_new(self, self.log.entries)
        spoil(self.log.entries())
        self.assertEqual(self.log.entries(), told)

    def test_unknown_ports_are_first(self):
        for port in ODD + ("nope", "TTY", 0, ("tty",), "mode"):
            for word, count in ((3, 5), (None, None), (32, 4)):
                with self.assertRaises(UnknownName, msg=port) as caught:
                    self.log.answer(port, word, count)
                self.assertIs(caught.exception.name, port)
        self.assertEqual(self.log.entries(), [])

    def refused(self, word, count):
        kept = self.log.entries()
        for call in (lambda: self.log.answer("tty", word, count), lambda: self.log.arrive(word, count)):
            with self.assertRaises(BadChoice, msg=(word, count)):
                call()
        self.assertEqual(self.log.entries(), kept)

    def test_words_that_are_none(self):
        for word in ODD + (32, -1, 10 ** 39, "3", (3,)):
            self.refused(word, 5)
            self.refused(word, None)

    def test_counts_that_are_none(self):
        for count in ODD + ("5", (5,), 4, 0, -10 ** 39):
            self.refused(3, count)

    def test_counts_do_not_descend(self):
        self.log.arrive(3, 8)
        for count in (7, 5, 0, -1):
            self.refused(3, count)
        self.log.answer("tty", 3, 8)
        self.log.answer("net", 3, 20)
        for count in (19, 8):
            self.refused(3, count)

    def test_equality(self):
        other = Log(with_changes(READING))
        self.assertEqual(self.log, other)
        self.log.answer("tty", 3, 5)
        self.assertNotEqual(self.log, other)
        other.answer("tty", 3, 5)
        self.assertEqual(self.log, other)
        for note in (lambda log: log.answer("tty", 4, 6), lambda log: log.answer("net", 3, 6), lambda log: log.answer("tty", 3, 7),
                     lambda log: log.arrive(3, 6)):
            logs = [Log(READING), Log(READING)]
            logs[0].answer("tty", 3, 6)
            note(logs[1])
            self.assertNotEqual(*logs)
        self.assertNotEqual(Log(READING), Log(with_changes(READING, pc=1)))
        self.assertNotEqual(Log(READING), Log(machine_of("read", meaning=NO_STOP)))
        for thing in ODD + (READING, [], 0):
            self.assertFalse(self.log == thing)
            self.assertTrue(self.log != thing)

    def test_logs_are_their_own(self):
        other = Log(READING)
        other.arrive(3, 9)
        self.assertEqual(self.log.entries(), [])


class MachineAt(unittest.TestCase):
    def test_without_entries_it_is_a_run(self):
        log = Log(READING)
        for many in range(12):
            self.assertEqual(log.machine_at(5 + many), run(READING, many)[0])
        self.assertEqual(log.machine_at(5), READING)

    def test_counts_that_are_none(self):
        for count in ODD + ("5", (5,), 4, 0, -10 ** 39):
            with self.assertRaises(BadChoice, msg=count):
                Log(READING).machine_at(count)

    def test_entries_at_the_count_below_it_and_above_it(self):
        log = Log(READING)
        log.answer("tty", 11, 5)
        log.arrive(3, 7)
        log.answer("tty", 12, 7)
        log.answer("net", 13, 7)
        log.arrive(4, 20)
        first = answered(READING, "tty", 11)
        self.assertEqual(log.machine_at(5), first)
        self.assertEqual(log.machine_at(6), step(first)[0])
        seventh = answered(answered(arrived(run(first, 2)[0], 3), "tty", 12), "net", 13)
        self.assertEqual(log.machine_at(7), seventh)
        self.assertEqual(log.machine_at(9), run(seventh, 2)[0])
        self.assertEqual(log.machine_at(19), run(seventh, 12)[0])
        self.assertEqual(log.machine_at(20), arrived(run(seventh, 13)[0], 4))
        self.assertEqual(log.machine_at(25), run(log.machine_at(20), 5)[0])

    def test_answers_are_taken_when_they_are_there(self):
        first = machine_of("read", "read", "read", specials={"mode": 1})
        log = Log(first)
        log.answer("tty", 9, 1)
        self.assertEqual([log.machine_at(k).registers()[0] for k in range(4)], [0, 0, 9, 0])
        log = Log(with_changes(first, answers={"tty": [(0, 7)], "net": []}))
        log.answer("tty", 9, 0)
        self.assertEqual([log.machine_at(k).registers()[0] for k in range(4)], [0, 7, 9, 0])

    def test_the_order_of_the_log(self):
        logs = [Log(READING), Log(READING)]
        for log, words in zip(logs, ((1, 2), (2, 1))):
            for word in words:
                log.answer("net", word, 6)
        self.assertEqual([log.machine_at(6).answers()["net"] for log in logs], [[(6, 1), (6, 2)], [(6, 2), (6, 1)]])

    def test_asking_changes_nothing(self):
        log = Log(READING)
        log.answer("tty", 11, 6)
        log.machine_at(20)
        self.assertEqual((log.entries(), log.start()), ([("answer", 6, "tty", 11)], READING))
        self.assertEqual(log.machine_at(20), log.machine_at(20))

    def test_long_runs(self):
        log = Log(machine_of("inc", "jmp"))
        self.assertEqual(log.machine_at(300).count(), 300)


class Worlds(unittest.TestCase):
    def test_the_log_of_a_world(self):
        host = host_of(machine_of("nop"), READING)
        for choice in (("answer", 1, "tty", 3), ("step", 1), ("step", 0), ("arrive", 1, 4), ("answer", 0, "net", 9), ("bring", 1, 2), ("share",),
                       ("patch", 1, 0), ("special", "was", 1), ("answer", 1, "net", 5), ("step", 1), ("arrive", 0, 1)):
            host.do(choice)
        due = Log(READING)
        due.answer("tty", 3, 5)
        due.arrive(4, 6)
        due.answer("net", 5, 6)
        self.assertEqual(log_of(host, 1), due)
        self.assertEqual(log_of(host, 1).machine_at(7), host.machine(1))
        self.assertEqual(log_of(host, 0).entries(), [("answer", 1, "net", 9), ("arrive", 1, 1)])
        self.assertEqual(log_of(host, 0).machine_at(1), host.machine(0))

    def test_it_is_its_own(self):
        host = host_of(READING)
        log = log_of(host, 0)
        log.answer("tty", 3, 5)
        self.assertEqual(log_of(host, 0), Log(READING))
        host.do(("arrive", 0, 3))
        self.assertEqual(log.entries(), [("answer", 5, "tty", 3)])

    def test_unknown_worlds(self):
        host = host_of(READING, READING)
        host.do(("close", 1))
        for w in ODD + (1, 2, "0"):
            with self.assertRaises(UnknownWorld, msg=w) as caught:
                log_of(host, w)
            self.assertIs(caught.exception.number, w)

    def test_replayed(self):
        log = Log(READING)
        log.answer("tty", 11, 5)
        log.arrive(3, 7)
        log.answer("tty", 12, 7)
        log.answer("net", 12, 9)
        for count in (5, 6, 7, 8, 9, 12):
            host = host_of(machine_of("nop"))
            self.assertEqual(replayed(host, log, count), 1)
            self.assertEqual(host.machine(1), log.machine_at(count))
            self.assertEqual(host.counts(1)[0], count - 5)
            made = [("answer", 1, "tty", 11, 5)] + [("step", 1)] * min(count - 5, 2)
            if count >= 7:
                made += [("arrive", 1, 3, 7), ("answer", 1, "tty", 12, 7)] + [("step", 1)] * min(count - 7, 2)
            if count >= 9:
                made += [("answer", 1, "net", 12, 9)] + [("step", 1)] * (count - 9)
            self.assertEqual(host.log()[2:], made)
            kept = [entry for entry in log.entries() if entry[1] <= count]
            self.assertEqual(log_of(host, 1).entries(), kept)

    def test_replayed_at_its_own_host(self):
        host = host_of(READING)
        for choice in (("answer", 0, "tty", 3), ("step", 0), ("arrive", 0, 4), ("step", 0)):
            host.do(choice)
        self.assertEqual(replayed(host, log_of(host, 0), 7), 1)
        self.assertEqual(host.machine(1), host.machine(0))
        self.assertEqual(log_of(host, 1), log_of(host, 0))

    def test_replayed_is_refused_ahead_of_the_opening(self):
        host = host_of(READING)
        kept = whole(host)
        for count in ODD + ("5", 4, 0, -10 ** 39):
            with self.assertRaises(BadChoice, msg=count):
                replayed(host, Log(READING), count)
            with self.assertRaises(BadChoice, msg=count):
                replayed(host_of(meaning=NO_STOP), Log(READING), count)
        self.assertEqual(whole(host), kept)

    def test_errors_of_the_opening_and_of_steps_pass_through(self):
        host = host_of(meaning=NO_STOP)
        with self.assertRaises(BadMachine) as caught:
            replayed(host, Log(READING), 9)
        self.assertEqual((caught.exception.word, host.worlds()), ("meaning", []))

        host = WornHost(Box(MEANING, [[0] * 8 for _ in range(9)], some_specials(), {"tty": [], "net": []}), range(9), [])
        with self.assertRaises(BadChoice):
            replayed(host, Log(READING), 12)
        self.assertEqual((host.worlds(), host.machine(0).count()), ([0], 8))

    def test_drawn_histories(self):
        for seed in range(25):
            draw = random.Random(seed)
            frames = draw.sample(range(9), draw.choice((4, 6, 9)))
            hosts = [Host(Box(RIGHT, [[0] * 8 for _ in range(9)], some_specials(), {"tty": [], "net": []}), frames, DOUBTED) for _ in range(2)]
            first = [drawn_machine(draw, RIGHT) for _ in range(2)]
            for machine in first:
                hosts[0].open_world(machine)
            for _ in range(50):
                choice = drawn_choice(draw, hosts[0])
                if can_do(hosts[0], choice):
                    hosts[0].do(choice)
            for w in (0, 1):
                log = log_of(hosts[0], w)
                machine = hosts[0].machine(w)
                self.assertEqual(log.start(), first[w])
                self.assertEqual(log.machine_at(machine.count()), machine)
                self.assertEqual(alone(first[w], w, hosts[0].log()), machine)
                number = replayed(hosts[1], log, machine.count())
                self.assertEqual(hosts[1].machine(number), machine)
                self.assertEqual(log_of(hosts[1], number), log)


class Watches(unittest.TestCase):
    MACHINE = made(one_meaning(one_book(())), registers=[4, 5, 6], pc=7, specials=some_specials(was=3, timer=9), outs={"tty": [1, 2], "net": []})

    def check(self, watch, told):
        self.assertIs(holds(self.MACHINE, watch), told, watch)

    def test_each_form(self):
        for word in range(16):
            self.check(("pc", word), word == 7)
            for number in range(3):
                self.check(("register", number, word), word == (4, 5, 6)[number])
            for name, at in (("was", 3), ("timer", 9), ("mode", 0)):
                self.check(("special", name, word), word == at)
            for frame, words in enumerate(self.MACHINE.frames()):
                for place in range(4):
                    self.check(("cell", frame, place, word), words[place] == word)
        for port, many in (("tty", 2), ("net", 0)):
            for asked in range(5):
                self.check(("outs", port, asked), asked <= many)


class Looking(unittest.TestCase):
    def setUp(self):
        # Behind the four instructions there are only traps, and the handler is a word without code, too.
        specials = {"mode": 1, "handler": 31}
        self.log = Log(machine_of("inc", "inc", "write", "st", registers=(5, 8, 0, 0), frames=([0] * 8,), specials=specials, count=3))

    def test_first_when(self):
        log = self.log
        for watch, told in ((("pc", 0), 3), (("pc", 1), 4), (("pc", 3), 6), (("register", 0, 5), 3), (("register", 0, 7), 5), (("register", 0, 9), None),
                            (("outs", "tty", 0), 3), (("outs", "tty", 1), 6), (("outs", "tty", 2), None), (("cell", 2, 0, 7), 7), (("cell", 2, 0, 8), None),
                            (("special", "mode", 1), 3), (("special", "mode", 0), None), (("special", "cause", 1), 8)):
            self.assertEqual(first_when(log, watch, 20), told, watch)
            self.assertEqual(first_when(log, watch, 300), told, watch)
            if told is not None:
                self.assertEqual(first_when(log, watch, told), told)
                self.assertIsNone(first_when(log, watch, told - 1))
            self.assertIsNone(first_when(log, watch, 2))
            self.assertIsNone(first_when(log, watch, -1))

    def test_first_when_uses_the_entries(self):
        log = Log(machine_of("read", "read", "read", specials={"mode": 1}))
        self.assertIsNone(first_when(log, ("register", 0, 9), 30))
        log.answer("tty", 9, 2)
        self.assertEqual(first_when(log, ("register", 0, 9), 30), 3)

    def test_last_change(self):
        log = self.log
        self.assertEqual([last_change(log, 2, 0, count) for count in range(9)], [None] * 7 + [7, 7])
        self.assertEqual(last_change(log, 2, 0, 300), 7)
        self.assertEqual([last_change(log, 2, 1, count) for count in (0, 3, 7, 20)], [None] * 4)

    def test_the_last_one_of_several_changes(self):
        # Stores what register 0 counts at address 8, over and over.
        log = Log(machine_of("inc", "st", "jmp", registers=(0, 8, 0, 0), frames=([0] * 8,)))
        words = [log.machine_at(count).word(2, 0) for count in range(40)]
        for count in range(40):
            changes = [c for c in range(1, count + 1) if words[c] != words[c - 1]]
            self.assertEqual(last_change(log, 2, 0, count), changes[-1] if changes else None)
        self.assertEqual(last_change(log, 2, 0, 2), 2)
        self.assertIsNone(last_change(log, 2, 0, 1))

    def test_a_cell_that_changes_and_changes_back(self):
        log = Log(machine_of("two", registers=(0, 8, 9, 0), frames=([4] * 8,)))
        self.assertEqual(log.machine_at(1).frames()[2], [4] * 8)
        self.assertIsNone(last_change(log, 2, 0, 5))

    def test_apart_at(self):
        log = self.log
        self.assertIsNone(apart_at(log, log, 50))
        other = Log(log.start())
        other.arrive(3, 6)
        for one, two in ((log, other), (other, log)):
            self.assertEqual([apart_at(one, two, limit) for limit in (0, 3, 5, 6, 7, 50)], [None, None, None, 6, 6, 6])
        other = Log(with_changes(log.start(), registers=[5, 8, 0, 1]))
        self.assertEqual([apart_at(log, other, limit) for limit in (2, 3, 4)], [None, 3, 3])

    def test_apart_at_begins_at_the_greater_of_the_first_counts(self):
        later = Log(self.log.machine_at(6))
        self.assertIsNone(apart_at(self.log, later, 50))
        self.assertIsNone(apart_at(later, self.log, 50))
        apart = Log(with_changes(self.log.machine_at(6), pc=0))
        self.assertEqual([apart_at(self.log, apart, limit) for limit in (3, 5, 6, 9)], [None, None, 6, 6])
        self.assertEqual(apart_at(apart, self.log, 6), 6)

    def test_machines_that_become_equal_again_are_not_told(self):
        one, two = Log(going((("move", ("op", 0), ("op", 1)),), registers=[1, 2, 0])), Log(going((("move", ("op", 0), ("op", 1)),), registers=[3, 2, 0]))
        self.assertEqual(one.machine_at(1), two.machine_at(1))
        self.assertEqual(apart_at(one, two, 5), 0)
        later = Log(one.machine_at(1))
        self.assertIsNone(apart_at(later, two, 20))

    def test_logs_stay_as_they_are(self):
        other = Log(self.log.start())
        other.arrive(3, 6)
        kept = (self.log.entries(), other.entries())
        first_when(other, ("pc", 9), 9)
        last_change(other, 0, 0, 9)
        apart_at(self.log, other, 9)
        self.assertEqual((self.log.entries(), other.entries()), kept)


if __name__ == "__main__":
    unittest.main()
