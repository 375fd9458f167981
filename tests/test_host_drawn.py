"""Drawn histories of hosts: S5.2, S5.8, S5.9 and S7.4, over a book whose instructions are right or patched."""

import random
import unittest

from drawnhosts import RIGHT, RIGHT_NO_STOP, drawn_choice, drawn_machine
from hostmodel import ModelHost
from hosts import DOUBTED, MEANING, entries, stock_of, untrue
from samples import some_specials
from worldsalone.bare import Box
from worldsalone.choices import can_do
from worldsalone.copies import copied_words, stop_word
from worldsalone.errors import BadChoice
from worldsalone.host import Host
from worldsalone.machines import Machine
from worldsalone.tables import translated
from worldsalone.worlds import alone, alone_told


class History:
    """A host whose worlds are followed by their machines alone."""

    def __init__(self, case, draw, meaning, doubted):
        self.case, self.draw, self.meaning, self.doubted = case, draw, meaning, doubted
        frames = draw.sample(range(9), draw.choice((4, 5, 8)))
        self.answers = {"tty": [5, 6, 7], "net": [8]}
        self.host = Host(Box(meaning, [[30] * 8 for _ in range(9)], some_specials(), self.answers), frames, doubted)
        self.alone = {}
        self.specials = some_specials()
        for _ in range(draw.choice((1, 2, 3))):
            self.add()

    def add(self):
        """Opens a world."""
        machine = drawn_machine(self.draw, self.meaning)
        self.alone[self.host.open_world(machine)] = machine

    def turn(self):
        """Makes a drawn choice, or is refused it."""
        host = self.host
        choice = drawn_choice(self.draw, host)
        if not can_do(host, choice):
            with self.case.assertRaises(BadChoice):
                host.do(choice)
            return
        before = {w: (host.machine(w).frames(), set(self.patched(w))) for w in host.worlds()}
        counts = {w: host.counts(w) for w in host.worlds()}
        told = host.do(choice)
        if choice[0] == "step":
            self.case.assertEqual([told], alone_told(self.alone[choice[1]], choice[1], [choice]))
        if choice[0] == "special":
            self.specials[choice[1]] = choice[2]
        for w in self.alone:
            self.alone[w] = alone(self.alone[w], w, [choice])
        self.check(choice, before, counts)

    def patched(self, w):
        """The frames of a world that have a copy or are closed."""
        copies = self.host.copies(w)
        return copies.copied() + copies.closed()

    def check(self, choice, before, counts):
        """Checks what is so behind each choice."""
        host, case = self.host, self.case
        case.assertIsNone(untrue(host))
        case.assertEqual((host.box().specials(), host.box().answers()), (self.specials, self.answers))
        case.assertEqual(host.box().outs(), {"tty": [], "net": []})
        for w in host.worlds():
            machine = host.machine(w)
            case.assertEqual(machine, self.alone[w])
            frames, patched = before[w]
            left = {k for k in patched if machine.frames()[k] == frames[k]}
            if choice[0] in ("patch", "unpatch") and choice[1] == w:
                case.assertEqual(len(left ^ set(self.patched(w))), 1)
            else:
                case.assertEqual(left, set(self.patched(w)))
            self.check_copies(w, machine)
            steps = counts[w][0] + (choice == ("step", w))
            case.assertEqual(host.counts(w)[0], steps)
            case.assertIn(host.counts(w)[2] - counts[w][2], (0, 1) if choice == ("step", w) else (0,))

    def check_copies(self, w, machine):
        """Checks that copies have the words of their frames, and that mapped words are those of the world."""
        stock = stock_of(self.host)
        copied = self.host.copies(w).copied()
        self.case.assertEqual((stock.copies(w), copied == [] or stop_word(self.meaning) is not None), (copied, True))
        for frame in copied:
            words = copied_words(self.meaning, self.doubted, machine.frames()[frame])
            self.case.assertEqual(stock.frame_words(w, ("copy", frame)), words)
        table = machine.special("table")
        for page, (g, rights, _) in entries(self.host, w).items():
            for right in rights:
                frame, _ = translated(self.meaning, machine.frames(), table, machine.is_user(), 8 * page, right)
                told = stock.frame_words(w, ("copy", frame) if frame in copied else frame)
                self.case.assertEqual(self.host.box().frames()[g], told)


class Drawn(unittest.TestCase):
    def histories(self, meaning, doubted, seeds):
        sums = [0, 0, 0]
        for seed in seeds:
            history = History(self, random.Random(seed), meaning, doubted)
            for k in range(50):
                history.turn()
                if k == 25 and history.draw.random() < 0.5 and history.host.worlds():
                    gone = history.draw.choice(history.host.worlds())
                    history.host.do(("close", gone))
                    del history.alone[gone]
                    history.add()
            for w in history.host.worlds():
                sums = [one + other for one, other in zip(sums, history.host.counts(w))]
        self.assertTrue(all(many > 50 for many in sums), sums)

    def test_a_right_book(self):
        self.histories(RIGHT, [], range(25))

    def test_copies_with_exchanged_words(self):
        self.histories(RIGHT, ["inc", "st", "ld", "nop"], range(100, 125))

    def test_closed_frames(self):
        self.histories(RIGHT_NO_STOP, ["inc"], range(200, 225))

    def test_against_a_host_told_once_more(self):
        """Where all frames lie, all entries and all counts, behind each choice."""
        for seed in range(600, 660):
            draw = random.Random(seed)
            meaning = draw.choice((RIGHT, RIGHT, RIGHT_NO_STOP))
            doubted = draw.choice(([], ["inc", "st", "ld"], ["nop", "jmp"]))
            frames = draw.sample(range(9), draw.choice((4, 4, 5, 8)))
            host = Host(Box(meaning, [[30] * 8 for _ in range(9)], some_specials(), {"tty": [], "net": []}), frames, doubted)
            model = ModelHost(meaning, frames, doubted)
            for _ in range(draw.choice((1, 2, 3))):
                machine = drawn_machine(draw, meaning)
                self.assertEqual(host.open_world(machine), model.open_world(machine))
            for _ in range(60):
                choice = ("close", 0) if draw.random() < 0.005 else drawn_choice(draw, host)
                if can_do(host, choice):
                    self.assertEqual(host.do(choice), model.do(choice), (seed, choice))
                    self.compare(host, model, (seed, choice))

    def compare(self, host, model, told):
        self.assertEqual(host.worlds(), sorted(model.worlds), told)
        self.assertEqual((stock_of(host).full(), stock_of(host).free()), (model.stock.full, model.stock.free()), told)
        for w, world in model.worlds.items():
            self.assertEqual(host.counts(w), tuple(world.counts), told)
            self.assertEqual(entries(host, w), world.entries, told)
            self.assertEqual(host.copies(w).copied() + host.copies(w).closed(), sorted(world.patched), told)
            self.assertEqual(host.machine(w), model.machine(w), told)
            for frame in range(model.stock.sizes[w]):
                self.assertEqual(host.where(w, frame), model.stock.where((w, frame)), told)

    def test_the_log_replays_the_worlds(self):
        for seed in range(300, 306):
            history = History(self, random.Random(seed), RIGHT, ["inc"])
            for _ in range(40):
                history.turn()
            log = history.host.log()
            first = {entry[1]: entry[2] for entry in log if entry[0] == "opened"}
            for w in history.host.worlds():
                self.assertEqual(history.host.machine(w), alone(first[w], w, log))
                self.assertEqual(len(alone_told(first[w], w, log)), history.host.counts(w)[0])

    def test_mappings_are_true_over_any_book(self):
        """S5.2 is promised for wrong instructions, too, though the worlds' machines are not."""
        for seed in range(400, 415):
            draw = random.Random(seed)
            host = Host(Box(MEANING, [[30] * 8 for _ in range(6)], some_specials(), {"tty": [5], "net": []}), range(6), [])
            for _ in range(2):
                machine = drawn_machine(draw, MEANING)
                frames = [[draw.choice((word, 29, 14)) for word in words] if k else words for k, words in enumerate(machine.frames())]
                host.open_world(Machine(MEANING, frames, machine.registers(), 0, machine.specials(), False, (),
                                        machine.outs(), machine.answers(), [], 0))
            for _ in range(50):
                choice = drawn_choice(draw, host)
                if can_do(host, choice):
                    host.do(choice)
                    self.assertIsNone(untrue(host))
                    self.assertEqual(host.box().special("mode"), 0)

    def test_patched_wrong_instructions_do_not_show(self):
        """S5.9 for a book with wrong instructions, where every frame that is fetched from was patched."""
        for seed in range(500, 520):
            draw = random.Random(seed)
            host = Host(Box(MEANING, [[30] * 8 for _ in range(9)], some_specials(), {"tty": [5], "net": []}), range(9), DOUBTED)
            machine = drawn_machine(draw, MEANING)
            frames = [[draw.choice((word, 29, 14)) for word in words] if k else words for k, words in enumerate(machine.frames())]
            first = Machine(MEANING, frames, machine.registers(), 0, machine.specials(), False, (), machine.outs(),
                            machine.answers(), [], 0)
            host.open_world(first)
            for _ in range(40):
                for page in range(4):
                    if can_do(host, ("patch", 0, page)):
                        host.do(("patch", 0, page))
                host.do(("step", 0))
                self.assertIsNone(untrue(host))
                self.assertEqual(host.machine(0), alone(first, 0, host.log()))
            self.assertEqual((host.box().specials(), host.box().answers()["tty"]), (some_specials(), [5]))


if __name__ == "__main__":
    unittest.main()
