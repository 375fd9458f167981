"""S5.9 and S7.5 for drawn books: what is decided of instructions is what hosts need of them."""

import random
import unittest

from drawing import SPECIALS, Drawer
from hosts import untrue
from samples import A, CAUSES, PORTS, PRIMITIVES, T0, T3, some_specials
from worldsalone.bare import Box
from worldsalone.books import Book
from worldsalone.careful import careful_step, sound_list
from worldsalone.choices import can_do
from worldsalone.deciding import is_right
from worldsalone.host import Host
from worldsalone.machines import Machine
from worldsalone.meanings import Meaning
from worldsalone.nested import WorldBox
from worldsalone.worlds import alone, alone_told

KINDS = ("step",) * 15 + ("share", "out", "bring", "patch", "unpatch", "answer", "arrive", "drop")


def drawn_instruction(draw):
    """The operands and rows of an instruction, and whether it is right for both modes."""
    operands = draw.randrange(3)
    user = Drawer(draw, operands).rows(draw.randrange(6))
    if draw.random() < 0.25:
        user = (("get", T3, draw.choice(SPECIALS)), *user, ("put", draw.choice(SPECIALS), T3))
    system = user if draw.random() < 0.6 else Drawer(draw, operands).rows(draw.randrange(5))
    if draw.random() < 0.25:
        user = (("trap", draw.choice(CAUSES)),)
    if draw.random() < 0.2:
        user = (("if", A if operands else T0, (("trap", "oops"),), ()), *user)
    book = Book(4, PRIMITIVES, CAUSES, PORTS, [("go", operands, user, system)])
    return (operands, user, system), is_right(book, "go", "user") and is_right(book, "go", "system")


def drawn_meaning(draw, instructions):
    """A meaning of a book with these instructions."""
    book = Book(4, PRIMITIVES, CAUSES, PORTS, [(f"i{k}", *told) for k, told in enumerate(instructions)])
    tables = {"one": {(): draw.choice((1, 8, 16))}, "inc": {(word,): (word + draw.choice((1, 8))) % 32 for word in range(32)},
              "sum": {(one, other): (one + other) % 32 for one in range(32) for other in range(32)}}
    entries = {k: (draw.randrange(7), draw.choice(("all", "all", "system")), draw.choice(("rwx", "rwx", "rw", "rx", "x", "r", "w")))
               for k in range(1, 10)}
    first = 0 if draw.random() < 0.3 else 10
    code = {}
    for word in range(first, 32):
        k = word % len(instructions)
        code[word] = (f"i{k}", tuple(draw.randrange(4) for _ in range(instructions[k][0])))
    return Meaning(book, 8, 4, tables, entries, code)


def drawn_machine(draw, meaning):
    """A machine of such a meaning."""
    frames = []
    for k in range(7):
        words = range(1, 10) if k in (0, 6) else range(10, 32)
        frames.append([draw.choice(words) if draw.random() < 0.8 else draw.randrange(32) for _ in range(8)])
    specials = {name: draw.randrange(32) for name in ("handler", "back", "was", "cause", "fault")}
    specials.update(mode=draw.choice((0, 0, 1, 4)), table=draw.choice((0, 0, 0, 6)), enabled=draw.choice((0, 1)), timer=draw.choice((0, 0, 2, 7)))
    registers = [draw.choice((0, 8, 16, 24, draw.randrange(32))) for _ in range(4)]
    return Machine(meaning, frames, registers, draw.choice((0, 8, draw.randrange(32))), some_specials(**specials), draw.random() < 0.2, (),
                   {"tty": [], "net": []}, {"tty": [(0, 4), (3, 5)], "net": []}, [], 0)


class DrawnBooks(unittest.TestCase):
    @classmethod
    def setUpClass(cls):
        draw = random.Random(59)
        told = [drawn_instruction(draw) for _ in range(500)]
        cls.right = [instruction for instruction, is_so in told if is_so]
        cls.all = [instruction for instruction, _ in told]
        assert 100 < len(cls.right) < 400

    def hosts(self, draw, meaning, doubted):
        """A host on a box and, now and then, one on a world of it."""
        box = Box(meaning, [[0] * 8 for _ in range(10)], some_specials(), {"tty": [7, 8], "net": []})
        hosts = [Host(box, draw.sample(range(10), draw.choice((5, 8, 10))), doubted)]
        if draw.random() < 0.5:
            serving = hosts[0].open_world(drawn_machine(draw, meaning))
            hosts.append(Host(WorldBox(hosts[0], serving), draw.sample(range(7), draw.choice((5, 7))), doubted))
        return hosts

    def choice(self, draw, kind):
        """A choice of a kind, which may not be one that can be made."""
        w = draw.choice((0, 1))
        told = {"share": (), "step": (w,), "drop": (w,), "answer": (w, "tty", draw.randrange(32)), "arrive": (w, draw.randrange(32))}
        return (kind, *told.get(kind, (w, draw.randrange(4))))

    def history(self, seed, instructions, is_careful):
        """Lets hosts make drawn choices; returns the counts of all worlds."""
        draw = random.Random(seed)
        meaning = drawn_meaning(draw, [draw.choice(instructions) for _ in range(10)])
        hosts = self.hosts(draw, meaning, sound_list(meaning.book()) if is_careful else draw.choice(([], ["i0", "i3"])))
        top = hosts[-1]
        own = {top.open_world(machine): machine for machine in [drawn_machine(draw, meaning) for _ in range(2)]}
        box = (top.box().specials(), top.box().outs(), top.box().answers())
        for _ in range(50):
            if len(hosts) > 1 and draw.random() < 0.15:
                choice = self.choice(draw, draw.choice(("share", "out", "bring", "patch", "drop")))
                if can_do(hosts[0], choice) and choice[1:2] != (1,):
                    hosts[0].do(choice)
            choice = self.choice(draw, draw.choice(KINDS))
            if not can_do(top, choice):
                continue
            seen = len(top.log())
            told = alone_told(own[choice[1]], choice[1], [choice]) if choice[0] == "step" else [None]
            if choice[0] == "step" and is_careful:
                careful_step(top, choice[1])
            elif choice[0] == "step":
                self.assertEqual([top.do(choice)], told, (seed, choice))
            else:
                top.do(choice)
            for w in own:
                own[w] = alone(own[w], w, top.log()[seen:])
                self.assertEqual(top.machine(w), own[w], (seed, choice))
            self.assertEqual([untrue(host) for host in hosts], [None] * len(hosts))
            self.assertEqual((top.box().specials(), top.box().outs(), top.box().answers()), box, (seed, choice))
        return [top.counts(w) for w in own]

    def sums(self, counts):
        return [sum(one[k] for one in counts) for k in range(3)]

    def test_right_books(self):
        counts = [one for seed in range(40) for one in self.history(seed, self.right, False)]
        self.assertGreater(min(self.sums(counts)), 100, self.sums(counts))

    def test_other_books_with_careful_steps(self):
        counts = [one for seed in range(40) for one in self.history(seed, self.all, True)]
        self.assertGreater(min(self.sums(counts)), 100, self.sums(counts))


if __name__ == "__main__":
    unittest.main()
