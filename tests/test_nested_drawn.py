"""Drawn histories of hosts that stand on worlds of other hosts: S8.4 and S8.5."""

import random
import unittest

from drawnhosts import RIGHT, RIGHT_NO_STOP, drawn_choice, drawn_machine
from hosts import box_of_frames, entries, host_of, machine_of, stepped, untrue
from samples import some_specials
from worldsalone.bare import Box
from worldsalone.careful import careful_step
from worldsalone.choices import can_do
from worldsalone.host import Host
from worldsalone.machines import Machine
from worldsalone.nested import WorldBox, depth, ways
from worldsalone.worlds import alone, alone_told

OUTER_CHANGES = ("step", "answer", "close")


def serving_machine(draw, meaning):
    """A machine whose world serves as a box."""
    frames = [[draw.randrange(32) for _ in range(8)] for _ in range(draw.choice((6, 8)))]
    specials = some_specials(mode=draw.choice((0, 1)), table=draw.randrange(3))
    return Machine(meaning, frames, [0] * 4, 0, specials, False, (), {"tty": [], "net": []}, {"tty": [(0, 5)], "net": []}, [], 0)


class Tower:
    """Hosts one upon the other, each with a world that serves as the box of the next one, and worlds beside it."""

    def __init__(self, case, draw, levels):
        self.case, self.draw, self.levels = case, draw, levels
        self.meaning = draw.choice((RIGHT, RIGHT, RIGHT_NO_STOP))
        self.doubted = draw.choice(([], ["inc", "st", "ld"], ["nop", "jmp"]))
        self.hosts = [self.host(box_of_frames(meaning=self.meaning))]
        self.alone = {}
        for level in range(levels):
            served = self.hosts[-1].open_world(serving_machine(draw, self.meaning))
            if draw.random() < 0.5:
                self.add(level)
            self.hosts.append(self.host(WorldBox(self.hosts[-1], served)))
        for _ in range(2):
            self.add(levels)

    def host(self, box):
        """A host on a box."""
        many = len(box.frames())
        return Host(box, self.draw.sample(range(many), self.draw.choice((4, 5, many))), self.doubted)

    def add(self, level):
        """Opens a world that does not serve."""
        machine = drawn_machine(self.draw, self.meaning)
        self.alone[(level, self.hosts[level].open_world(machine))] = machine

    def serves(self, level, w):
        """Whether a world serves as a box."""
        return level < self.levels and self.hosts[level + 1].box().world() == w

    def turn(self):
        """Makes a drawn choice of a drawn host, if it can be made and changes no machine that serves."""
        level = self.draw.choice([self.levels] * 3 + list(range(self.levels)))
        host = self.hosts[level]
        choice = drawn_choice(self.draw, host)
        if not can_do(host, choice) or (len(choice) > 1 and self.serves(level, choice[1]) and choice[0] in OUTER_CHANGES):
            return None
        kept = [self.told(upper) for upper in self.hosts[level + 1:]]
        lower = [(one.log(), [one.counts(w) for w in one.worlds()]) for one in self.hosts[:level]]
        told = host.do(choice)
        if choice[0] == "step":
            self.case.assertEqual([told], alone_told(self.alone[(level, choice[1])], choice[1], [choice]))
        self.case.assertEqual([self.told(upper) for upper in self.hosts[level + 1:]], kept)
        self.case.assertEqual([(one.log(), [one.counts(w) for w in one.worlds()]) for one in self.hosts[:level]], lower)
        for at, w in self.alone:
            if at == level:
                self.alone[(at, w)] = alone(self.alone[(at, w)], w, [choice])
        return choice[0]

    def told(self, host):
        """All that a host tells but the box below."""
        copies = [host.copies(w).copied() + host.copies(w).closed() for w in host.worlds()]
        lying = [host.where(w, k) for w in host.worlds() for k in range(6)]
        return [(host.machine(w), host.counts(w), entries(host, w)) for w in host.worlds()], copies, lying, host.log()

    def check(self, seed):
        """Checks what is so behind each choice."""
        for (level, w), machine in self.alone.items():
            self.case.assertEqual(self.hosts[level].machine(w), machine, (seed, level, w))
        for level, host in enumerate(self.hosts):
            self.case.assertIsNone(untrue(host))
            self.case.assertEqual(depth(host.box()), level)
            for w in host.worlds():
                for frame, way in enumerate(ways(host, w)):
                    self.case.assertLessEqual(len(way), level + 1)
                    if len(way) == level + 1:
                        self.case.assertEqual(self.hosts[0].box().frames()[way[-1]], host.machine(w).frames()[frame])


class Drawn(unittest.TestCase):
    def towers(self, levels, seeds):
        steps = 0
        for seed in seeds:
            tower = Tower(self, random.Random(seed), levels)
            for _ in range(60):
                steps += tower.turn() == "step"
                tower.check(seed)
        self.assertGreater(steps, 15 * len(seeds))

    def test_one_deep(self):
        self.towers(1, range(30))

    def test_two_deep(self):
        self.towers(2, range(100, 120))

    def test_three_deep(self):
        self.towers(3, range(200, 212))

    def test_fills_are_needed_in_inner_hosts_too(self):
        host = host_of(machine_of("inc"), frames=range(5))
        first = machine_of("three", "st", "ld", "inc", registers=(3, 8, 16, 24))
        inner = Host(WorldBox(host, 0), range(2, 7), [])
        inner.open_world(first)
        self.assertEqual(stepped(inner, 0, 4), [("done",)] * 4)
        self.assertEqual(inner.machine(0), alone(first, 0, inner.log()))
        self.assertEqual(inner.counts(0), (4, 5, 0))
        self.assertEqual(host.counts(0), (0, 0, 0))

    def test_specials_of_the_outer_world_are_those_of_the_inner_box(self):
        host = host_of(machine_of("inc", specials={"mode": 5}))
        inner = Host(WorldBox(host, 0), range(2, 7), [])
        self.assertEqual(host.world_special(0, "mode"), 0)
        inner.do(("special", "was", 9))
        self.assertEqual(host.machine(0).special("was"), 9)

    def test_careful_steps_of_inner_worlds(self):
        """S7.5 for a host on a world, whose lower host doubts other instructions."""
        for seed in range(12):
            draw = random.Random(seed)
            host = Host(box_of_frames(), range(8), draw.choice(([], ["inc", "nop", "st"])))
            host.open_world(machine_of("inc"))
            inner = Host(WorldBox(host, 0), range(1, 7), ["bad", "wild"])
            first = drawn_machine(draw, machine_of("inc").meaning())
            frames = [[draw.choice((word, 14, 29)) for word in words] if k else words for k, words in enumerate(first.frames())]
            first = Machine(first.meaning(), frames, first.registers(), 0, first.specials(), False, (), first.outs(), first.answers(), [], first.count())
            inner.open_world(first)
            for _ in range(25):
                careful_step(inner, 0)
                choice = draw.choice((("share",), ("out", 0, draw.randrange(7)), ("patch", 0, draw.randrange(4)), ("drop", 0)))
                if can_do(host, choice):
                    host.do(choice)
                self.assertEqual(inner.machine(0), alone(first, 0, inner.log()), seed)
            self.assertEqual((host.machine(0).outs(), host.machine(0).special("mode")), ({"tty": [], "net": []}, 0))

    def test_a_box_of_another_kind_is_as_good(self):
        """A host on a world makes the same of its worlds as one on a box that was made of the world's machine."""
        for seed in range(10):
            draw = random.Random(seed)
            serving = serving_machine(draw, RIGHT)
            host = Host(box_of_frames(meaning=RIGHT), range(7), [])
            host.open_world(serving)
            specials = dict(serving.specials(), mode=0)
            plain = Host(Box(RIGHT, serving.frames(), specials, {"tty": [5], "net": []}), range(1, 6), [])
            inner = Host(WorldBox(host, 0), range(1, 6), [])
            first = drawn_machine(draw, RIGHT)
            self.assertEqual((plain.open_world(first), inner.open_world(first)), (0, 0))
            for _ in range(40):
                choice = drawn_choice(draw, plain)
                if can_do(plain, choice) and choice[0] != "close":
                    self.assertEqual(inner.do(choice), plain.do(choice))
                    self.assertEqual(inner.machine(0), plain.machine(0))
                    self.assertEqual((inner.counts(0), entries(inner, 0)), (plain.counts(0), entries(plain, 0)))
                    self.assertEqual(inner.box().frames(), plain.box().frames())
                    self.assertEqual(inner.box().specials(), plain.box().specials())


if __name__ == "__main__":
    unittest.main()
