"""Moves: S9.5, and the interface of worldsalone/moving.py."""

import random
import unittest

from drawnhosts import RIGHT, drawn_machine
from hosts import DOUBTED, MEANING, NO_STOP, WornHost, host_of, machine_of, whole
from samples import ODD, assert_new, some_specials, spoil
from worldsalone.bare import Box
from worldsalone.choices import can_do
from worldsalone.errors import BadChoice, BadMachine, UnknownWorld
from worldsalone.host import Host
from worldsalone.moving import Moving, moved
from worldsalone.worlds import alone

EVERY = tuple(range(7))


def storing():
    """A host with a world whose first steps store: 5 into frame 2, 5 into frame 3, and what was there into frame 2."""
    first = machine_of("st", "inc", "inc", frames=([2] * 8, [3] * 8), registers=(5, 8, 0, 0))
    return host_of(first), first


class Sending(unittest.TestCase):
    def test_nothing_was_sent_at_first(self):
        host, _ = storing()
        moving = Moving(host, 0, host_of())
        self.assertEqual(moving.due(), EVERY)
        self.assertEqual(moving.sendings(), [])
        self.assertIsInstance(moving.due(), tuple)

    def test_few_all_and_no_frames(self):
        host, _ = storing()
        moving = Moving(host, 0, host_of())
        self.assertEqual([moving.send(many) for many in (0, 2, 1, 0, 99, 3)], [(), (0, 1), (2,), (), (3, 4, 5, 6), ()])
        self.assertEqual(moving.sendings(), [(), (0, 1), (2,), (), (3, 4, 5, 6), ()])
        self.assertEqual(moving.due(), ())

    def test_frames_whose_words_change_are_due_again(self):
        host, _ = storing()
        moving = Moving(host, 0, host_of())
        moving.send(7)
        host.do(("step", 0))
        self.assertEqual(moving.due(), (2,))
        host.write_word(0, 5, 3, 30)
        self.assertEqual(moving.due(), (2, 5))
        self.assertEqual(moving.send(1), (2,))
        self.assertEqual(moving.due(), (5,))
        host.do(("step", 0))
        self.assertEqual(moving.due(), (5,))

    def test_words_that_are_written_and_written_back(self):
        host, _ = storing()
        moving = Moving(host, 0, host_of())
        moving.send(7)
        host.write_word(0, 2, 0, 9)
        self.assertEqual(moving.due(), (2,))
        host.write_word(0, 2, 0, 2)
        self.assertEqual(moving.due(), ())
        host.write_word(0, 2, 0, 9)
        moving.send(7)
        host.write_word(0, 2, 0, 2)
        self.assertEqual(moving.due(), (2,))

    def test_frames_that_were_never_sent_stay_due(self):
        host, _ = storing()
        moving = Moving(host, 0, host_of())
        moving.send(3)
        host.write_word(0, 1, 7, 9)
        self.assertEqual(moving.due(), (1, 3, 4, 5, 6))

    def test_where_frames_are_does_not_matter(self):
        host, _ = storing()
        moving = Moving(host, 0, host_of())
        moving.send(7)
        for choice in (("bring", 0, 2), ("bring", 0, 3), ("share",), ("patch", 0, 0), ("out", 0, 2), ("drop", 0), ("answer", 0, "tty", 3)):
            host.do(choice)
            self.assertEqual(moving.due(), ())

    def test_asking_changes_nothing(self):
        host, _ = storing()
        moving = Moving(host, 0, host_of())
        kept = whole(host)
        moving.send(4)
        moving.due()
        moving.sendings()
        self.assertEqual(whole(host), kept)
        assert_new(self, moving.sendings)
        spoil(moving.sendings())
        self.assertEqual(moving.sendings(), [(0, 1, 2, 3)])


class Finishing(unittest.TestCase):
    def test_finish(self):
        host, _ = storing()
        other = host_of(machine_of("nop"))
        moving = Moving(host, 0, other)
        moving.send(7)
        host.do(("step", 0))
        host.do(("answer", 0, "tty", 3))
        host.do(("patch", 0, 0))
        machine = host.machine(0)
        self.assertEqual(moving.finish(), (1, (2,)))
        self.assertEqual(other.machine(1), machine)
        self.assertEqual((other.counts(1), other.copies(1).copied(), len(other.mapping(1))), ((0, 0, 0), [], 0))
        self.assertEqual([other.where(1, k) for k in EVERY], [("out",)] * 7)
        self.assertEqual(host.worlds(), [])
        self.assertEqual(host.log()[-1], ("close", 0))
        self.assertEqual(other.log()[-1], ("opened", 1, machine))
        self.assertEqual(moving.sendings(), [EVERY, (2,)])

    def test_without_other_sendings(self):
        host, first = storing()
        other = host_of()
        moving = Moving(host, 0, other)
        self.assertEqual(moving.finish(), (0, EVERY))
        self.assertEqual(other.machine(0), first)
        self.assertEqual(moving.sendings(), [EVERY])

    def test_nothing_is_due(self):
        host, _ = storing()
        moving = Moving(host, 0, host_of())
        moving.send(7)
        self.assertEqual(moving.finish(), (0, ()))
        self.assertEqual(moving.sendings(), [EVERY, ()])

    def test_the_same_host(self):
        host, first = storing()
        moving = Moving(host, 0, host)
        moving.send(3)
        self.assertEqual(moving.finish(), (1, (3, 4, 5, 6)))
        self.assertEqual((host.worlds(), host.machine(1)), ([1], first))
        self.assertEqual(host.log()[-2:], [("opened", 1, first), ("close", 0)])

    def test_behind_the_end(self):
        host, _ = storing()
        moving = Moving(host, 0, host)
        moving.finish()
        kept = whole(host)
        for call in (moving.due, lambda: moving.send(1), lambda: moving.send(0), moving.finish):
            with self.assertRaises(BadChoice):
                call()
        self.assertEqual(moving.sendings(), [EVERY])
        self.assertEqual(whole(host), kept)

    def test_behind_a_closing(self):
        host, _ = storing()
        other = host_of()
        moving = Moving(host, 0, other)
        moving.send(2)
        host.do(("close", 0))
        for call in (moving.due, lambda: moving.send(1), lambda: moving.send(0), moving.finish):
            with self.assertRaises(BadChoice):
                call()
        self.assertEqual(moving.sendings(), [(0, 1)])
        self.assertEqual(other.worlds(), [])

    def test_two_moves_of_one_world(self):
        host, first = storing()
        one, two = Moving(host, 0, host_of()), Moving(host, 0, host)
        one.send(7)
        self.assertEqual(two.due(), EVERY)
        two.finish()
        with self.assertRaises(BadChoice):
            one.due()


class Refused(unittest.TestCase):
    def test_unknown_worlds_are_first(self):
        host, _ = storing()
        host.do(("close", host.open_world(machine_of("inc"))))
        for other in (host_of(), host_of(meaning=NO_STOP)):
            for w in ODD + (1, 2, "0"):
                for call in (lambda: Moving(host, w, other), lambda: moved(host, w, other, 1, 1, 1)):
                    with self.assertRaises(UnknownWorld, msg=w) as caught:
                        call()
                    self.assertIs(caught.exception.number, w)

    def test_another_meaning(self):
        host, _ = storing()
        other = host_of(meaning=NO_STOP)
        kept = whole(host)
        for call in (lambda: Moving(host, 0, other), lambda: moved(host, 0, other, 1, 0, 2)):
            with self.assertRaises(BadMachine) as caught:
                call()
            self.assertEqual(caught.exception.word, "meaning")
        self.assertEqual((whole(host), other.worlds()), (kept, []))

    def test_errors_of_steps_pass_through(self):
        host = WornHost(Box(MEANING, [[0] * 8 for _ in range(9)], some_specials(), {"tty": [], "net": []}), range(9), [])
        host.open_world(machine_of("inc"))
        with self.assertRaises(BadChoice):
            moved(host, 0, host_of(), 1, 0, 3)
        self.assertEqual((host.worlds(), host.counts(0)[0]), ([0], 3))


class Moved(unittest.TestCase):
    def check(self, pace, most, rounds, sendings, steps):
        """Moves the storing world, and checks what was sent, and how many steps it made."""
        host, first = storing()
        other = host_of()
        self.assertEqual(moved(host, 0, other, pace, most, rounds), (0, sendings))
        self.assertEqual(other.machine(0), alone(first, 0, [("step", 0)] * steps))
        self.assertEqual(host.worlds(), [])
        self.assertEqual([choice for choice in host.log()[1:-1]], [("step", 0)] * steps)

    def test_rounds(self):
        self.check(0, 0, 0, (EVERY,), 0)
        self.check(3, 7, 9, (EVERY,), 0)
        self.check(3, 6, 0, (EVERY,), 0)
        self.check(0, 6, 1, (EVERY, ()), 0)
        self.check(0, 0, 9, (EVERY, ()), 0)
        self.check(1, 6, 1, (EVERY, (2,)), 7)
        self.check(1, 6, 9, (EVERY, (2,)), 7)
        self.check(1, 1, 9, (EVERY, (2,)), 7)
        self.check(1, 0, 9, (EVERY, (2,), ()), 8)
        self.check(2, 0, 2, (EVERY, (2,), ()), 16)

    def test_all_sendings_are_told_as_a_tuple(self):
        host, _ = storing()
        number, sendings = moved(host, 0, host, 1, 0, 3)
        self.assertEqual(number, 1)
        self.assertIsInstance(sendings, tuple)

    def test_drawn_moves(self):
        seen = set()
        for seed in range(80):
            draw = random.Random(seed)
            hosts = []
            for _ in range(2):
                frames = draw.sample(range(9), draw.choice((4, 6, 9)))
                hosts.append(Host(Box(RIGHT, [[0] * 8 for _ in range(9)], some_specials(), {"tty": [], "net": []}), frames, DOUBTED))
            if draw.random() < 0.3:
                hosts[1] = hosts[0]
            first = drawn_machine(draw, RIGHT)
            hosts[0].open_world(first)
            if can_do(hosts[0], ("patch", 0, 0)) and draw.random() < 0.5:
                hosts[0].do(("patch", 0, 0))
            pace, most, rounds = draw.randrange(4), draw.choice((0, 0, 1, 2, 7)), draw.randrange(6)
            due, machine, made = self.told_once_more(first, pace, most, rounds)
            number, sendings = moved(hosts[0], 0, hosts[1], pace, most, rounds)
            self.assertEqual(sendings, due, seed)
            self.assertEqual(hosts[1].machine(number), machine)
            self.assertEqual(machine, alone(first, 0, hosts[0].log()))
            self.assertEqual(number, 1 if hosts[0] is hosts[1] else 0)
            seen.add(made)
        self.assertTrue(len(seen) > 3, seen)

    def told_once_more(self, machine, pace, most, rounds):
        """The sendings and the machine of such a move, and how many rounds were made."""
        sent, sendings, made = {}, [], 0
        while True:
            due = tuple(k for k, words in enumerate(machine.frames()) if sent.get(k) != words)
            sendings.append(due)
            if made == rounds or len(due) <= most:
                return tuple(sendings), machine, made
            sent.update((k, machine.frames()[k]) for k in due)
            machine = alone(machine, 0, [("step", 0)] * (pace * len(due)))
            made += 1


if __name__ == "__main__":
    unittest.main()
