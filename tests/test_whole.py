"""What the document promises over the whole program: S0.1 to S0.3, and S5.9 once more."""

import copy
import random
import unittest

from drawnhosts import RIGHT, drawn_machine
from hosts import BOOK, CODE, DOUBTED, ENTRIES, INSTRUCTIONS, MEANING, TABLES, box_of_frames, host_of, machine_of, stepped
from samples import NAMES, assert_new, mutable_parts, some_specials, spoil, with_changes
from worldsalone import errors
from worldsalone.bare import Box, box_of
from worldsalone.books import Book
from worldsalone.careful import careful_choice, careful_step, sound_list
from worldsalone.choices import can_do, do_all
from worldsalone.copies import Copies, copied_words, doubtful_places, stop_words
from worldsalone.deciding import decide, decide_mode
from worldsalone.host import Host
from worldsalone.logs import Log, first_when, last_change, log_of, replayed
from worldsalone.machines import Machine, answered, arrived, fresh, poked
from worldsalone.mappings import Mapping, first_untrue, limit_of, wanted
from worldsalone.meanings import Meaning
from worldsalone.moving import Moving, moved
from worldsalone.nested import WorldBox, together, ways
from worldsalone.papers import first_wrong, judge_papers
from worldsalone.questions import answers, compared, stands
from worldsalone.saved import applied, difference, joined, packed, restored, restored_machine, saved, saved_machine, unpacked
from worldsalone.sharing import groups, share_alike
from worldsalone.starts import judge_start
from worldsalone.steps import emulated, passed, run, step, trapped
from worldsalone.stock import Stock
from worldsalone.tables import frame_of, rights_at, table_cell, translated
from worldsalone.texts import read_words, words_text
from worldsalone.walks import verdict
from worldsalone.worlds import alone, alone_told

RIGHT_BOOK = Book(4, [("inc", 1)], ["help", "oops"], ["tty", "net"], [
    entry for entry in BOOK.instructions() if entry[0] not in DOUBTED])


def as_tuples(thing):
    """A thing with a tuple in place of each list, also inside others."""
    if isinstance(thing, (list, tuple)):
        return tuple(as_tuples(part) for part in thing)
    return {key: as_tuples(part) for key, part in thing.items()} if isinstance(thing, dict) else thing


def storing():
    """A stock with two worlds, of which some frames lie in the box."""
    stock = Stock(box_of_frames(), [3, 1, 5, 7, 8])
    stock.open_world([[1] * 8, [2] * 8, [1] * 8])
    stock.open_world([[2] * 8])
    for w, frame in ((0, 0), (0, 1), (1, 0), (0, 2)):
        stock.brought(w, frame, False, [])
    stock.make_copy(0, 1, [2] * 8)
    return stock


def hosting():
    """A host with two worlds that have made steps, and patched frames."""
    host = host_of(machine_of("ld", "st", "bad", registers=(9, 16, 0, 0)), machine_of("inc", outs={"tty": [1], "net": []}))
    stepped(host, 0, 2)
    host.do(("patch", 0, 0))
    host.do(("answer", 1, "tty", 4))
    host.do(("share",))
    return host


class Returned(unittest.TestCase):
    """A returned list or dict is new, also one inside another one."""

    def check(self, *calls):
        for call in calls:
            assert_new(self, call)
            first = call()
            kept = copy.deepcopy(first)
            spoil(first)
            self.assertEqual(call(), kept)

    def test_books_and_meanings(self):
        self.check(BOOK.primitives, BOOK.causes, BOOK.ports, BOOK.instructions, lambda: MEANING.words_of("inc", (0,)),
                   lambda: read_words(MEANING, words_text(MEANING, [16, 3])), lambda: stop_words(MEANING),
                   lambda: copied_words(MEANING, DOUBTED, [29, 3]), lambda: doubtful_places(MEANING, DOUBTED, [29, 3]))

    def test_machines_and_boxes(self):
        machine = machine_of("inc", answers={"tty": [(0, 1)], "net": []}, arrivals=[(3, 1)])
        self.check(machine.frames, machine.registers, machine.specials, machine.outs, machine.answers, machine.arrivals,
                   lambda: run(machine, 3)[1])
        for box in (box_of(machine), WorldBox(host_of(machine), 0)):
            self.check(box.frames, box.specials, box.answers, box.outs, lambda: box.bare({0: (1, "x")}, [0] * 4, 0))

    def test_stocks_and_hosts(self):
        stock, host = storing(), hosting()
        self.check(stock.worlds, stock.free, stock.full, lambda: stock.frame_words(0, 0), lambda: stock.lying(1), lambda: stock.copies(0),
                   lambda: groups(stock), lambda: share_alike(storing()))
        self.check(host.worlds, host.log, host.mapping(0).as_dict, lambda: host.mapping(0).fall_all(), host.copies(0).copied, host.copies(0).closed,
                   lambda: do_all(host_of(machine_of("inc")), [("step", 0), ("share",)]), lambda: ways(host, 0),
                   lambda: together(host, 0, {0: (1, "rwx")}), lambda: alone_told(host.machine(0), 0, [("step", 0)]),
                   lambda: careful_step(hosting(), 0), lambda: Log(host.machine(0)).entries(), lambda: log_of(host, 1).entries(),
                   lambda: Moving(host, 0, host).sendings(), lambda: sound_list(BOOK))
        for call in (Mapping().fall_all, lambda: Mapping().fall_by_cell((0, 0)), lambda: Mapping().fall_by_box_frame(1), lambda: Mapping().fall_writing(1)):
            self.check(call)

    def test_what_is_decided(self):
        self.check(lambda: decide(RIGHT_BOOK), lambda: decide(BOOK), lambda: decide_mode(BOOK, "wild", "user"),
                   lambda: answers(BOOK, "ld", "user", [], ("same", 0, 1)))

    def test_tuples_are_tuples_throughout(self):
        host = hosting()
        form = saved(host, 0)
        for thing in (form, packed(form), difference(form, form), decide(RIGHT_BOOK)[1][4], Moving(host, 0, host).due(), host.counts(0),
                      decide_mode(RIGHT_BOOK, "three", "user")[1]):
            self.assertIsInstance(thing, tuple)
            self.assertEqual(mutable_parts(thing), [])


class Passed(unittest.TestCase):
    """No function modifies its arguments, and no object keeps a list or dict that was passed to it."""

    PARTS = {
        "frames": [[1, 2, 3, 4, 0, 0, 0, 0], [16, 17, 18, 19, 0, 0, 0, 0], [5] * 8, [6] * 8, [7] * 8], "registers": [1, 2, 3, 4],
        "specials": some_specials(was=3), "outs": {"tty": [1], "net": []}, "answers": {"tty": [(0, 3)], "net": []}, "arrivals": [(0, 5)],
    }

    def machine(self, parts):
        """A machine with these parts."""
        return Machine(MEANING, parts["frames"], parts["registers"], 1, parts["specials"], False, (2,), parts["outs"], parts["answers"],
                       parts["arrivals"], 4)

    def test_what_is_made_of_lists_and_dicts_does_not_keep_them(self):
        for make in (
            lambda given: Book(4, *given["book"]).instructions(),
            lambda given: [Meaning(BOOK, 8, 4, *given["meaning"]).entry(k) for k in range(32)],
            lambda given: Meaning(BOOK, 8, 4, *given["meaning"]).apply("inc", (3,)),
            self.machine,
            lambda given: fresh(MEANING, given["frames"], given["registers"], 0, given["specials"]),
            lambda given: Box(MEANING, given["frames"], given["specials"], given["outs"]),
            lambda given: Copies(MEANING, given["names"]),
        ):
            given = self.given()
            first = make(given)
            self.assertEqual(given, self.given())
            spoil(given)
            self.assertEqual(first, make(self.given()))

    def given(self):
        """All that is passed, in new lists and dicts."""
        parts = copy.deepcopy(self.PARTS)
        parts["book"] = [[("inc", 1)], ["help", "oops"], ["tty", "net"], list(BOOK.instructions())]
        parts["meaning"] = [copy.deepcopy(TABLES), dict(ENTRIES), dict(CODE)]
        parts["names"] = list(DOUBTED)
        return parts

    def test_stocks_and_hosts_keep_none_of_them(self):
        contents, frames, kept, words = [[1] * 8, [2] * 8], [0, 1, 2, 3], [1], [3] * 8
        stock = Stock(box_of_frames(), frames)
        stock.open_world(contents)
        stock.make_copy(0, 1, words)
        stock.brought(0, 0, False, kept)
        self.assertEqual((contents, frames, kept, words), ([[1] * 8, [2] * 8], [0, 1, 2, 3], [1], [3] * 8))
        for thing in (contents, frames, kept, words):
            spoil(thing)
        self.assertEqual((stock.frame_words(0, 0), stock.frame_words(0, ("copy", 1)), stock.many(0)), ([1] * 8, [3] * 8, 2))
        self.assertEqual(stock.free() + stock.full(), [1, 2, 3, 0])
        doubted, frames = ["bad"], [0, 1, 2, 3]
        host = Host(box_of_frames(), frames, doubted)
        spoil(doubted)
        spoil(frames)
        first = machine_of("bad", "inc")
        host.open_world(first)
        self.assertEqual(careful_choice(host, 0), ("patch", 0, 0))
        careful_step(host, 0)
        self.assertEqual(host.machine(0), alone(first, 0, host.log()))

    def test_functions_leave_what_they_are_passed(self):
        machine, host = self.machine(self.PARTS), hosting()
        paper = decide_mode(BOOK, "ld", "user")[1]
        start = decide_mode(BOOK, "wild", "user")[1]
        papers = decide(RIGHT_BOOK)[1]
        form = saved_machine(machine)
        log = Log(machine)
        log.answer("tty", 3, 6)
        mapping, registers, frames = {0: (1, "rwx"), 1: (2, "rw")}, [8, 9, 10, 11], machine.frames()
        branch = [(("same", 0, 1), "no"), (("allowed", ("operand", 1), "r"), "yes")]
        choices = [("answer", 0, "tty", 3), ("step", 0), ("arrive", 0, 3, 9), ("drop", 1)]
        calls = [
            lambda: step(machine), lambda: run(machine, 3), lambda: emulated(machine), lambda: trapped(machine, "page", 3),
            lambda: passed(machine, registers, 3), lambda: answered(machine, "tty", 3), lambda: arrived(machine, 3),
            lambda: poked(machine, 0, 0, 3), lambda: box_of(machine), lambda: box_of(machine).bare(mapping, registers, 0),
            lambda: WorldBox(host, 1).bare(mapping, registers, 0), lambda: together(host, 0, mapping), lambda: alone(machine, 0, choices),
            lambda: alone_told(machine, 0, choices), lambda: table_cell(MEANING, frames, 0, 1), lambda: frame_of(MEANING, frames, 0, 1),
            lambda: rights_at(MEANING, frames, 0, True, 1), lambda: translated(MEANING, frames, 0, True, 9, "r"),
            lambda: limit_of(0, registers, registers, 1), lambda: wanted(machine, registers, registers, 9, "r"),
            lambda: first_untrue(Mapping(), machine, mapping, registers, registers), lambda: stands(BOOK, "ld", "user", branch, ("cell", ("operand", 1))),
            lambda: answers(BOOK, "ld", "user", branch, ("cell", ("operand", 1))), lambda: compared(BOOK, "ld", "user", branch, ("pc",), ("next",)),
            lambda: verdict(BOOK, "ld", "user", branch), lambda: first_wrong(BOOK, "ld", "user", paper), lambda: judge_papers(RIGHT_BOOK, papers),
            lambda: judge_start(BOOK, "wild", "user", start), lambda: saved_machine(machine), lambda: restored_machine(MEANING, form),
            lambda: unpacked(MEANING, list(packed(form))), lambda: applied(MEANING, form, ((), form[2:])), lambda: joined(((), form[2:]), ((), form[2:])),
            lambda: log.machine_at(9), lambda: first_when(log, ("pc", 31), 9), lambda: last_change(log, 0, 0, 9), lambda: replayed(host, log, 8),
            lambda: copied_words(MEANING, DOUBTED, registers), lambda: doubtful_places(MEANING, DOUBTED, registers), lambda: words_text(MEANING, registers),
            lambda: do_all(host, [("share",)]), lambda: can_do(host, ("share",)), lambda: restored(host, form),
        ]
        passed_on = (mapping, registers, frames, branch, choices, paper, start[2:], papers, form, DOUBTED, log.entries(), log.start())
        kept = copy.deepcopy(passed_on[:-1])
        behind = step(machine)
        for call in calls:
            call()
            self.assertEqual(passed_on[:-1], kept)
            self.assertEqual(step(machine), behind)

    def test_tuples_may_be_passed_for_lists(self):
        given = self.given()
        told = as_tuples(given)
        self.assertEqual(self.machine(told), self.machine(given))
        self.assertEqual(Book(4, *told["book"]), Book(4, *given["book"]))
        self.assertEqual(Box(MEANING, told["frames"], told["specials"], told["outs"]), Box(MEANING, given["frames"], given["specials"], given["outs"]))
        machine = self.machine(given)
        for frames in ([0, 1, 2, 3], (0, 1, 2, 3)):
            host = Host(box_of_frames(), frames, tuple(DOUBTED))
            host.open_world(machine)
            self.assertEqual(do_all(host, (("step", 0), ("share",))), do_all(host_of(machine, frames=range(4)), [("step", 0), ("share",)]))
        box = box_of(machine)
        self.assertEqual(box.bare({0: (1, "x")}, tuple(given["registers"]), 0), box_of(machine).bare({0: (1, "x")}, given["registers"], 0))
        self.assertEqual(alone(machine, 0, (("step", 0),)), step(machine)[0])
        self.assertEqual(passed(machine, (1, 2, 3, 4), 3), passed(machine, [1, 2, 3, 4], 3))
        self.assertEqual(unpacked(MEANING, list(packed(saved_machine(machine)))), saved_machine(machine))


class Errors(unittest.TestCase):
    def test_own_errors_are_those_of_the_interface(self):
        own = {name for name in vars(errors) if not name.startswith("_")}
        self.assertEqual(own, {
            "HostError", "BadChoice", "BadPaper", "NoRoom", "BadName", "TwiceTold", "BadMeaning", "BadMachine", "BadStart", "BadBook", "BadData",
            "BadText", "TooLong", "NameMissing", "UnknownName", "UnknownWorld", "NotThere"})

    def test_true_and_false_are_no_numbers(self):
        host = hosting()
        for w in (True, False):
            for call in (host.machine, host.counts, host.mapping, host.copies, lambda w: host.where(w, 0), lambda w: WorldBox(host, w),
                         lambda w: ways(host, w), lambda w: careful_step(host, w), lambda w: saved(host, w), lambda w: Moving(host, w, host),
                         lambda w: log_of(host, w), lambda w: host.world_word(w, 0, 0), lambda w: host.bring_frame(w, 0, True, [])):
                self.assertRaises(errors.UnknownWorld, call, w)
            self.assertRaises(errors.NotThere, host.where, 0, w)
            self.assertRaises(errors.BadChoice, host.do, ("step", w))
            self.assertRaises(errors.BadChoice, Log(host.machine(0)).machine_at, w)
            self.assertRaises(errors.BadData, unpacked, MEANING, [w])

    def test_numbers_never_count_from_the_end(self):
        host = hosting()
        box = WorldBox(host, 0)
        for call in (host.machine, lambda k: WorldBox(host, k), lambda k: saved(host, k), lambda k: log_of(host, k)):
            self.assertRaises(errors.UnknownWorld, call, -1)
        for call in (lambda k: host.where(0, k), lambda k: box.peek(k, 0), lambda k: box.peek(0, k), lambda k: box.poke(0, k, 0),
                     lambda k: host.machine(0).word(k, 0), BOOK.cause_name):
            self.assertRaises(errors.NotThere, call, -1)


class Journeys(unittest.TestCase):
    """S5.9 for a world that is patched, served by worlds, saved, moved and replayed."""

    def hosts(self, draw, meaning, doubted):
        """Hosts with many and few frames, one on a world, and one on a world of that one."""
        answers_given = {"tty": [1, 2], "net": []}
        found = [Host(Box(meaning, [[30] * 8 for _ in range(9)], some_specials(), answers_given), draw.sample(range(9), many), doubted)
                 for many in (9, 4)]
        for _ in range(2):
            serving = fresh(meaning, [[draw.randrange(32) for _ in range(8)] for _ in range(8)], [0] * 4, 0, some_specials(mode=1))
            below = found[-1]
            found.append(Host(WorldBox(below, below.open_world(serving)), draw.sample(range(8), draw.choice((4, 7))), doubted))
        return found

    def travel(self, seed, meaning, doubted, first, kinds):
        """Lets a world go through hosts, and compares it with its machine alone."""
        draw = random.Random(seed)
        hosts = self.hosts(draw, meaning, doubted)
        host = draw.choice(hosts)
        w, machine = host.open_world(first), first
        seen = len(host.log())
        for _ in range(70):
            kind = draw.choice(kinds)
            other = draw.choice(hosts)
            if kind == "careful":
                careful_step(host, w)
            if kind in ("share", "drop", "out", "bring", "answer", "arrive", "patch", "unpatch", "step"):
                told = {"share": (), "drop": (w,), "out": (w, draw.randrange(7)), "bring": (w, draw.randrange(7)), "answer": (w, "tty", draw.randrange(32)),
                        "arrive": (w, draw.randrange(32)), "patch": (w, draw.randrange(4)), "unpatch": (w, draw.randrange(4)), "step": (w,)}
                if can_do(host, (kind, *told[kind])):
                    host.do((kind, *told[kind]))
            machine = alone(machine, w, host.log()[seen:])
            seen = len(host.log())
            self.assertEqual(host.machine(w), machine, (seed, kind))
            if kind in ("move", "save", "replay"):
                host, w, machine = self.left(draw, kind, host, w, other, machine)
                seen = len(host.log())
                self.assertEqual(host.machine(w), machine, (seed, kind))
        return machine.count() - first.count()

    def left(self, draw, kind, host, w, other, machine):
        """The host and number of a world that left its host for another one, and its machine alone."""
        if kind == "move" and draw.random() < 0.5:
            moving = Moving(host, w, other)
            for _ in range(draw.randrange(4)):
                moving.send(draw.randrange(9))
                logged = len(host.log())
                careful_step(host, w)
                machine = alone(machine, w, host.log()[logged:])
            return other, moving.finish()[0], machine
        if kind == "move":
            return other, moved(host, w, other, 0, draw.randrange(8), 2)[0], machine
        number = restored(other, saved(host, w)) if kind == "save" else replayed(other, log_of(host, w), machine.count())
        host.do(("close", w))
        return other, number, machine

    def test_a_right_book(self):
        kinds = ["step"] * 12 + ["share", "drop", "out", "bring", "answer", "arrive", "patch", "unpatch", "move", "save", "replay", "careful"]
        steps = [self.travel(seed, RIGHT, ["inc", "st"], drawn_machine(random.Random(seed), RIGHT), kinds) for seed in range(20)]
        self.assertGreater(sum(steps), 400)

    def test_a_book_with_wrong_instructions_and_careful_steps(self):
        kinds = ["careful"] * 12 + ["share", "drop", "out", "bring", "answer", "arrive", "patch", "unpatch", "move", "save"]
        steps = []
        for seed in range(20):
            draw = random.Random(seed)
            first = drawn_machine(draw, MEANING)
            frames = [[draw.choice((word, 14, 29)) for word in words] if k in range(1, 6) else words for k, words in enumerate(first.frames())]
            steps.append(self.travel(seed, MEANING, sound_list(BOOK), with_changes(first, frames=frames), kinds))
        self.assertGreater(sum(steps), 400)

    def test_instructions_of_hosts_are_decided_as_their_tests_take_them(self):
        self.assertEqual([name for name in INSTRUCTIONS if name in sound_list(BOOK)], DOUBTED)
        self.assertEqual(sound_list(RIGHT_BOOK), [])
        self.assertEqual(len(NAMES), 9)


if __name__ == "__main__":
    unittest.main()
