"""The steps of worlds: S5.3 to S5.5, S5.8 and S7.4."""

import unittest

from hosts import MEANING, NO_STOP, entries, host_of, machine_of, rights, stepped, stock_of, untrue, words_of
from samples import A, B, C, T0, with_changes
from worldsalone.books import Book
from worldsalone.machines import arrived, poked
from worldsalone.meanings import Meaning
from worldsalone.steps import run, step

# The pages of machine_of are 0: frame 1 (the code), 1: frame 2, 2: frame 3, 3: frame 4; the addresses are 0, 8, 16, 24.
DONE = ("done",)


class Base(unittest.TestCase):
    def follow(self, host, w, many=1):
        """Makes steps of a world and checks them against its machine alone; returns what they tell."""
        machine, events = run(host.machine(w), many)
        self.assertEqual(stepped(host, w, many), events)
        self.assertEqual(host.machine(w), machine)
        self.assertIsNone(untrue(host))
        return events

    def step_told(self, host, w, told, counts):
        """Makes a step; checks what it tells, the counts behind it, and the machine."""
        self.assertEqual(self.follow(host, w), [told])
        self.assertEqual(host.counts(w), counts)


class Sorts(Base):
    """Each sort of step, with its counts, and the timer, the flag, the arrivals and the count behind it."""

    def check(self, machine, told, counts):
        """A step of machines that differ in the timer, the arrivals and the lines."""
        specials = machine.specials()
        for timer in (0, 1, 2, 31):
            for arrivals in ([], [(0, 3), (4, 4), (5, 5)]):
                for lines in ((), (3, 9)):
                    for is_out in (False, True):
                        later = {**specials, "timer": timer}
                        varied = with_changes(machine, specials=later, arrivals=arrivals, lines=lines, is_out=is_out, count=4)
                        self.step_told(host_of(varied), 0, told, counts)

    def test_a_bare_step_that_is_done(self):
        self.check(machine_of("inc"), DONE, (1, 1, 0))
        self.check(machine_of("jmp", registers=(0, 19, 0, 0)), DONE, (1, 1, 0))
        self.check(machine_of("nop", specials={"mode": 3}), DONE, (1, 1, 0))

    def test_a_virtual_trap_page(self):
        self.check(machine_of("inc", pc=8, table=(1, 0, 0, 0), specials={"handler": 5}), ("trap", "page"), (1, 0, 0))
        self.check(machine_of("ld", registers=(0, 24, 0, 0), table=(1, 2, 3, 13)), ("trap", "page"), (1, 1, 0))
        self.check(machine_of("st", registers=(0, 9, 0, 0), table=(1, 8, 3, 13)), ("trap", "page"), (1, 1, 0))
        self.check(machine_of("inc", specials={"table": 9}), ("trap", "page"), (1, 0, 0))

    def test_a_word_without_code(self):
        self.check(machine_of(3), ("trap", "code"), (1, 1, 1))

    def test_a_trap_row(self):
        self.check(machine_of("svc", specials={"handler": 17}), ("trap", "help"), (1, 1, 1))
        self.check(machine_of("late", registers=(1, 0, 0, 0)), ("trap", "oops"), (1, 1, 1))
        self.check(machine_of("late"), DONE, (1, 1, 0))
        self.check(machine_of("table", registers=(2, 0, 0, 0)), ("trap", "help"), (1, 1, 1))

    def test_an_instruction_that_is_emulated_and_done(self):
        for name in ("table", "mode", "enable", "timer", "read", "write", "back"):
            system = {"mode": 1, "was": 0, "back": 7}
            self.check(machine_of(name, registers=(2, 0, 0, 0), specials=system), DONE, (1, 1, 1))

    def test_a_barred_access(self):
        self.check(machine_of("st", registers=(0, 24, 0, 0), table=(1, 2, 3, 10)), DONE, (1, 1, 1))
        self.check(machine_of("three", registers=(0, 8, 16, 24), table=(1, 2, 3, 10)), DONE, (1, 3, 1))

    def test_a_virtual_trap_ahead_of_a_bare_step(self):
        for enabled in (1, 9):
            lines = machine_of("inc", lines=(4, 7), specials={"enabled": enabled, "handler": 3, "mode": 2})
            self.step_told(host_of(lines), 0, ("trap", "line"), (1, 0, 0))
            timer = machine_of("inc", is_out=True, specials={"enabled": enabled, "handler": 3})
            self.step_told(host_of(timer), 0, ("trap", "timer"), (1, 0, 0))
            both = machine_of("inc", is_out=True, arrivals=[(0, 5)], specials={"enabled": enabled})
            self.step_told(host_of(both), 0, ("trap", "line"), (1, 0, 0))
            self.step_told(host_of(arrived(lines, 2)), 0, ("trap", "line"), (1, 0, 0))

    def test_a_virtual_trap_lets_all_fall_in_user_mode(self):
        for mode, left in ((0, 0), (1, 1), (5, 1)):
            for machine in (machine_of("inc", "svc"), machine_of("inc", 0), machine_of("inc", "ld", registers=(0, 24, 0, 0))):
                kept = with_changes(poked(machine, 0, 3, 0), specials={"mode": mode})
                host = host_of(kept)
                self.follow(host, 0, 2)
                self.assertEqual(len(host.mapping(0)), left)
        host = host_of(machine_of("inc", specials={"enabled": 1, "mode": 3}), machine_of("inc", specials={"enabled": 1}))
        for w in (0, 1):
            stepped(host, w)
            host.do(("arrive", w, 3))
            self.follow(host, w)
            self.assertEqual(len(host.mapping(w)), 1 - w)

    def test_the_counts_go_on(self):
        host = host_of(machine_of("inc", "ld", "svc", registers=(0, 8, 0, 0), specials={"handler": 1}), machine_of("inc"))
        told = [(1, 1, 0), (2, 2, 0), (3, 2, 1), (4, 4, 1), (5, 4, 2)]
        for counts in told:
            self.follow(host, 0)
            self.assertEqual((host.counts(0), host.counts(1)), (counts, (0, 0, 0)))
        self.assertEqual(host.open_world(machine_of("inc")), 2)
        self.assertEqual(host.counts(2), (0, 0, 0))


class Fills(Base):
    def test_once(self):
        host = host_of(machine_of("inc", "inc", "ld", "ld", registers=(0, 8, 0, 0)))
        self.step_told(host, 0, DONE, (1, 1, 0))
        self.assertEqual(entries(host, 0), {0: (0, "x", (0, 0))})
        self.step_told(host, 0, DONE, (2, 1, 0))
        self.step_told(host, 0, DONE, (3, 2, 0))
        self.assertEqual(entries(host, 0), {0: (0, "x", (0, 0)), 1: (1, "r", (0, 1))})
        self.step_told(host, 0, DONE, (4, 2, 0))

    def test_several_times_in_one_step(self):
        host = host_of(machine_of("three", registers=(0, 8, 16, 24)))
        self.step_told(host, 0, DONE, (1, 4, 0))
        self.assertEqual(rights(host, 0), {0: "x", 1: "r", 2: "r", 3: "w"})
        self.assertEqual([host.where(0, k) for k in range(1, 5)], [("in", g) for g in range(4)])

    def test_one_page_several_times(self):
        host = host_of(machine_of("two", registers=(0, 8, 16, 0)))
        self.step_told(host, 0, DONE, (1, 4, 0))
        self.assertEqual(entries(host, 0), {0: (0, "x", (0, 0)), 1: (1, "rw", (0, 1)), 2: (2, "w", (0, 2))})
        host = host_of(machine_of("two", registers=(0, 6, 7, 0)))
        self.step_told(host, 0, DONE, (1, 3, 0))
        self.assertEqual(rights(host, 0), {0: "rwx"})

    def test_two_pages_of_one_frame(self):
        host = host_of(machine_of("three", registers=(0, 8, 16, 24), table=(1, 2, 2, 1)))
        self.step_told(host, 0, DONE, (1, 4, 0))
        self.assertEqual(entries(host, 0), {
            0: (0, "x", (0, 0)), 1: (1, "r", (0, 1)), 2: (1, "r", (0, 2)), 3: (0, "w", (0, 3))})

    def test_pages_of_another_table(self):
        machine = machine_of("ld", registers=(0, 9, 0, 0), frames=[words_of(1, 6, 0, 0)], specials={"table": 2})
        host = host_of(machine)
        self.step_told(host, 0, DONE, (1, 2, 0))
        self.assertEqual(entries(host, 0), {0: (0, "x", (2, 0)), 1: (1, "r", (2, 1))})
        self.assertEqual((host.where(0, 6), host.where(0, 2)), (("in", 1), ("out",)))

    def test_with_as_few_as_four_frames_of_the_box(self):
        others = machine_of("three", registers=(0, 8, 16, 24))
        host = host_of(others, machine_of("three", registers=(0, 24, 16, 8)), frames=(3, 5, 7, 9))
        for w, counts in ((0, (1, 4, 0)), (1, (1, 4, 0))):
            self.step_told(host, w, DONE, counts)
        self.assertEqual([host.where(1, k) for k in (1, 4, 3, 2)], [("in", g) for g in (3, 5, 7, 9)])
        self.assertEqual((len(host.mapping(0)), len(host.mapping(1))), (0, 4))
        self.assertEqual([host.where(0, k) for k in range(7)], [("out",)] * 7)

    def test_the_frames_of_a_step_are_kept(self):
        host = host_of(machine_of("three", "three", registers=(0, 8, 16, 24)), frames=(0, 1, 2, 3))
        # The frames of data become full first, so the one of the code would be emptied last without being kept.
        for frame in (5, 6, 1, 2):
            host.do(("bring", 0, frame))
        stepped_counts = host.counts(0)
        self.assertEqual(stepped_counts, (0, 0, 0))
        self.step_told(host, 0, DONE, (1, 4, 0))
        self.assertEqual([host.where(0, k) for k in (1, 2, 3, 4)], [("in", 2), ("in", 3), ("in", 0), ("in", 1)])
        self.step_told(host, 0, DONE, (2, 4, 0))

    def test_the_oldest_one_of_the_step_would_be_emptied_if_it_were_not_kept(self):
        host = host_of(machine_of("three", registers=(0, 8, 16, 24)), frames=(0, 1, 2, 3))
        for frame in (1, 2, 3, 6):
            host.do(("bring", 0, frame))
        self.step_told(host, 0, DONE, (1, 4, 0))
        self.assertEqual([host.where(0, k) for k in (1, 2, 3, 4)], [("in", 0), ("in", 1), ("in", 2), ("in", 3)])

    def shared_code_and_data(self, frames, *others):
        """A host whose world's frames 1, the code, and 2 are alike and shared in the least box frame."""
        code = words_of("st", "st", 5)
        machine = machine_of("st", "st", 5, frames=[code], registers=(9, 15, 0, 0))
        host = host_of(machine, *others, frames=frames)
        for frame in (1, 2):
            host.do(("bring", 0, frame))
        host.do(("share",))
        self.assertEqual((host.where(0, 1), host.where(0, 2)), (("shared", frames[0]), ("shared", frames[0])))
        return host

    def test_a_store_into_a_frame_that_is_shared_with_the_code(self):
        host = self.shared_code_and_data((0, 1, 2, 3))
        self.step_told(host, 0, DONE, (1, 3, 0))
        # The entry of the code falls when frame 2 leaves the box frame, and is filled once more.
        self.assertEqual(entries(host, 0), {1: (1, "w", (0, 1)), 0: (0, "x", (0, 0))})
        self.assertEqual((host.where(0, 1), host.where(0, 2)), (("in", 0), ("in", 1)))

    def test_the_kept_box_frame_of_the_code_is_not_emptied_for_what_is_shared_there(self):
        host = self.shared_code_and_data((0, 1, 2, 3))
        for frame in (4, 5, 6):
            host.do(("bring", 0, frame))
        self.assertEqual(stock_of(host).full(), [0, 1, 2, 3])
        self.step_told(host, 0, DONE, (1, 3, 0))
        self.assertEqual((host.where(0, 1), host.where(0, 2), host.where(0, 4)), (("in", 0), ("in", 1), ("out",)))

    def test_the_own_box_frame_is_not_kept(self):
        # Frames 2 and 5 are shared in box frame 0, which is the oldest; frame 2 is read, then written.
        alike = [30] * 8
        machine = machine_of("two", frames=[alike, [9] * 8, [8] * 8, alike], registers=(0, 8, 9, 0))
        host = host_of(machine, frames=(0, 1, 2, 3))
        for frame in (2, 5):
            host.do(("bring", 0, frame))
        host.do(("share",))
        for frame in (1, 3, 4):
            host.do(("bring", 0, frame))
        self.assertEqual((stock_of(host).full(), host.where(0, 2)), ([0, 1, 2, 3], ("shared", 0)))
        # When frame 5 leaves box frame 0, the entry of page 1 falls, though frame 2 stays there: it is read anew.
        self.step_told(host, 0, DONE, (1, 4, 0))
        self.assertEqual((host.where(0, 2), host.where(0, 5), host.where(0, 1)), (("in", 0), ("out",), ("in", 1)))
        self.assertEqual(stock_of(host).full(), [1, 2, 3, 0])
        self.assertEqual(entries(host, 0), {0: (1, "x", (0, 0)), 1: (0, "rw", (0, 1))})

    def test_more_than_the_box_has_room_for_is_emulated(self):
        rows = tuple([("load", T0, ref) for ref in (A, B, C, ("op", 3))])
        book = Book(4, [], ["help"], ["tty", "net"], [("four", 4, rows, rows)])
        table = {k: (k, "all", "rwx") for k in range(1, 7)}
        meaning = Meaning(book, 8, 5, {}, table, {30: ("four", (0, 1, 2, 3))})
        machine = machine_of(30, registers=(8, 16, 24, 32), table=(1, 2, 3, 4, 5), meaning=meaning)
        for frames, counts in (((0, 1, 2, 3), (1, 4, 1)), ((0, 1, 2, 3, 4), (1, 5, 0))):
            host = host_of(machine, frames=frames, doubted=[], meaning=meaning)
            self.step_told(host, 0, DONE, counts)

    def test_entries_of_other_worlds_stay_and_fall(self):
        host = host_of(machine_of("inc", "inc"), machine_of("three", "ld", registers=(0, 8, 16, 24)), frames=(0, 1, 2, 3))
        self.follow(host, 0)
        self.follow(host, 1)
        self.assertEqual((len(host.mapping(0)), rights(host, 1)), (0, {0: "x", 1: "r", 2: "r", 3: "w"}))
        self.step_told(host, 0, DONE, (2, 2, 0))
        self.assertEqual((rights(host, 0), rights(host, 1)), ({0: "x"}, {1: "r", 2: "r", 3: "w"}))


class Emulated(Base):
    def test_a_store_into_the_present_table(self):
        machine = machine_of("ld", "st", "st", registers=(5, 24, 0, 0), table=(1, 2, 3, 10))
        host = host_of(machine)
        self.follow(host, 0)
        self.assertEqual(rights(host, 0), {0: "x", 3: "r"})
        # The word 1 of page 0 is stored at place 0 of the table: it is the word already.
        self.step_told(host, 0, DONE, (2, 2, 1))
        self.assertEqual((rights(host, 0), host.where(0, 0)), ({0: "x", 3: "r"}, ("in", 1)))
        host.take_over(0, with_changes(host.machine(0), registers=[5, 25, 0, 0]))
        self.step_told(host, 0, DONE, (3, 2, 2))
        self.assertEqual((rights(host, 0), host.world_word(0, 0, 1)), ({0: "x", 3: "r"}, 5))

    def test_a_store_into_the_present_table_lets_the_page_fall(self):
        host = host_of(machine_of("ld", "st", "ld", registers=(6, 27, 0, 0), table=(1, 2, 3, 12)))
        self.follow(host, 0)
        self.assertEqual((rights(host, 0), host.machine(0).registers()[0]), ({0: "x", 3: "r"}, 12))
        host.take_over(0, with_changes(host.machine(0), registers=[6, 27, 0, 0]))
        self.step_told(host, 0, DONE, (2, 2, 1))
        self.assertEqual((rights(host, 0), host.world_word(0, 0, 3)), ({0: "x"}, 6))
        self.step_told(host, 0, DONE, (3, 3, 1))
        self.assertEqual((host.where(0, 6)[0], rights(host, 0)), ("in", {0: "x", 3: "r"}))

    def test_a_store_into_another_table_is_not_barred(self):
        host = host_of(machine_of("st", "st", registers=(6, 27, 0, 0), table=(1, 2, 3, 5)))
        self.step_told(host, 0, DONE, (1, 2, 0))
        self.assertEqual(rights(host, 0), {0: "x", 3: "w"})

    def test_a_store_into_a_table_that_is_shared(self):
        machine = machine_of("st", "st", registers=(6, 27, 0, 0), table=(1, 2, 3, 12))
        host = host_of(machine, machine)
        for w in (0, 1):
            host.do(("bring", w, 0))
        host.do(("share",))
        self.step_told(host, 0, DONE, (1, 1, 1))
        self.assertEqual((host.where(0, 0), host.where(1, 0), host.where(0, 1)), (("in", 2), ("in", 0), ("in", 1)))
        self.assertEqual((host.world_word(0, 0, 3), host.machine(1)), (6, machine))

    def test_a_store_into_a_shared_table_that_is_parted_lets_entries_fall_that_lead_there(self):
        # Page 1 reads frame 2, which is alike the table and shares its box frame.
        table = words_of(1, 2, 3, 10)
        machine = machine_of("ld", "st", registers=(0, 8, 0, 0), table=table, frames=[table])
        host = host_of(machine)
        for frame in (0, 2):
            host.do(("bring", 0, frame))
        host.do(("share",))
        self.follow(host, 0)
        self.assertEqual(entries(host, 0), {0: (1, "x", (0, 0)), 1: (0, "r", (0, 1))})
        host.take_over(0, with_changes(host.machine(0), registers=[7, 29, 0, 0]))
        self.step_told(host, 0, DONE, (2, 2, 1))
        self.assertEqual((entries(host, 0), host.where(0, 0)), ({0: (1, "x", (0, 0))}, ("in", 2)))

    def test_a_store_into_a_table_that_is_aside(self):
        host = host_of(machine_of("st", registers=(6, 27, 0, 0), table=(1, 2, 3, 12)))
        self.step_told(host, 0, DONE, (1, 1, 1))
        self.assertEqual((host.where(0, 0), host.world_word(0, 0, 3)), (("out",), 6))

    def parting(self, *registers, table):
        """A host where frames of world 0 are shared with those of world 1, and box frame 3 alone is free."""
        machine = machine_of("cross", registers=registers, table=table, frames=[[6] * 8, [7] * 8])
        host = host_of(machine, machine, frames=(0, 1, 2, 3))
        host.do(("bring", 0, 1))
        for frame in (0, 2) if table[3] == 10 else (2, 3):
            for w in (0, 1):
                host.do(("bring", w, frame))
            host.do(("share",))
        self.assertEqual(stock_of(host).free(), [3])
        return host

    def test_several_words_are_written_one_after_the_other(self):
        # The first store is barred, since it goes into the table: words of frames 0 and 2 become others at once.
        host = self.parting(0, 25, 8, 0, table=(1, 2, 3, 10))
        self.assertEqual((host.where(0, 0), host.where(0, 2)), (("shared", 1), ("shared", 2)))
        self.step_told(host, 0, DONE, (1, 1, 1))
        self.assertEqual([host.where(0, k) for k in (0, 1, 2)], [("in", 3), ("in", 0), ("out",)])
        self.assertEqual([host.where(1, k) for k in (0, 1, 2)], [("in", 1), ("out",), ("in", 2)])
        self.assertEqual((host.world_word(0, 0, 1), host.world_word(0, 2, 0)), (8, 25))

    def test_words_are_written_ascending_by_frame(self):
        # Frame 3 is stored into first, but written behind frame 2, which gets the free box frame.
        host = self.parting(0, 16, 8, 0, table=(1, 2, 3, 4))
        host.do(("patch", 0, 2))
        self.step_told(host, 0, DONE, (1, 1, 1))
        self.assertEqual((host.where(0, 2), host.where(0, 3)), (("in", 3), ("out",)))
        self.assertEqual((host.world_word(0, 2, 0), host.world_word(0, 3, 0), host.copies(0).copied()), (16, 8, []))

    def test_a_put_of_the_table(self):
        host = host_of(machine_of("inc", "table", "table", registers=(0, 0, 0, 0), specials={"mode": 1}))
        self.follow(host, 0)
        host.take_over(0, with_changes(host.machine(0), registers=[0, 0, 0, 0]))
        self.step_told(host, 0, DONE, (2, 1, 1))
        self.assertEqual(rights(host, 0), {0: "x"})
        host.take_over(0, with_changes(host.machine(0), registers=[5, 0, 0, 0]))
        self.step_told(host, 0, DONE, (3, 1, 2))
        self.assertEqual((rights(host, 0), host.world_special(0, "table")), ({}, 5))

    def test_a_put_of_the_mode(self):
        for first, put, left in ((1, 1, 1), (1, 2, 1), (3, 1, 1), (1, 0, 0), (7, 0, 0)):
            host = host_of(machine_of("mode", registers=(put, 0, 0, 0), specials={"mode": first}))
            self.step_told(host, 0, DONE, (1, 1, 1))
            self.assertEqual((len(host.mapping(0)), host.world_special(0, "mode")), (left, put))

    def test_answers_and_outs(self):
        host = host_of(machine_of("read", "write", "read", "read", specials={"mode": 1}))
        host.do(("answer", 0, "tty", 13))
        self.follow(host, 0, 4)
        self.assertEqual((host.machine(0).outs(), host.machine(0).answers()), ({"tty": [13], "net": []}, {"tty": [], "net": []}))
        self.assertEqual((host.box().answers(), host.box().outs()), ({"tty": [21, 22], "net": []}, {"tty": [], "net": []}))


class Ending(Base):
    """S7.4: a copy, or a closing, ends when a cell of its frame gets another word, and not otherwise."""

    def store(self, word, address, meaning=MEANING, page=1, table=(1, 2, 3, 4), patched=None):
        """A host behind a store of a word at an address, where the frame of a page was patched before."""
        host = host_of(machine_of("st", "ld", registers=(word, address, 0, 0), meaning=meaning, table=table), meaning=meaning)
        host.do(("patch", 0, page))
        self.follow(host, 0)
        copies = host.copies(0)
        self.assertEqual(stock_of(host).copies(0), copies.copied())
        return (host, copies.copied() + copies.closed())

    def test_a_copy_by_an_emulated_store(self):
        host, left = self.store(9, 12)
        self.assertEqual((left, host.counts(0)), ([], (1, 1, 1)))

    def test_a_copy_stays_behind_a_store_of_the_same_word(self):
        host, left = self.store(2, 12)
        self.assertEqual((left, host.counts(0)), ([2], (1, 1, 1)))

    def test_a_copy_stays_behind_a_store_elsewhere(self):
        host, left = self.store(9, 20)
        self.assertEqual((left, host.counts(0)), ([2], (1, 2, 0)))
        host, left = self.store(9, 28, table=(1, 2, 3, 10))
        self.assertEqual((left, host.counts(0)), ([2], (1, 1, 1)))

    def test_a_closing_by_a_bare_step(self):
        host, left = self.store(9, 12, NO_STOP)
        self.assertEqual((left, host.counts(0), rights(host, 0)), ([], (1, 2, 0), {0: "x", 1: "w"}))

    def test_a_closing_stays_behind_a_bare_step_that_stores_the_same_word(self):
        host, left = self.store(2, 12, NO_STOP)
        self.assertEqual((left, host.counts(0)), ([2], (1, 2, 0)))

    def test_a_closing_by_an_emulated_store(self):
        # The code's own frame is closed: its step is emulated, and it stores into itself.
        host, left = self.store(9, 7, NO_STOP, page=0)
        self.assertEqual((left, host.counts(0)), ([], (1, 0, 1)))
        host, left = self.store(0, 7, NO_STOP, page=0)
        self.assertEqual((left, host.counts(0)), ([1], (1, 0, 1)))

    def test_a_copy_of_a_table(self):
        host, left = self.store(9, 29, page=3, table=(1, 2, 3, 12))
        self.assertEqual((left, host.counts(0)), ([], (1, 1, 1)))

    def test_a_word_that_comes_back_ends_nothing(self):
        # "two" stores 0, then the word that it loaded before, at one address.
        for meaning in (MEANING, NO_STOP):
            host = host_of(machine_of("two", registers=(0, 8, 16, 0), meaning=meaning), meaning=meaning)
            host.do(("patch", 0, 1))
            self.follow(host, 0)
            copies = host.copies(0)
            self.assertEqual(copies.copied() + copies.closed(), [2])

    def test_it_does_not_matter_where_the_frame_lies(self):
        for place in ("in", "shared", "out"):
            machine = machine_of("st", registers=(9, 12, 0, 0))
            host = host_of(machine, machine)
            if place != "out":
                host.do(("bring", 0, 2))
            if place == "shared":
                host.do(("bring", 1, 2))
                host.do(("share",))
            host.do(("patch", 0, 1))
            self.assertEqual(host.where(0, 2)[0], place)
            self.follow(host, 0)
            self.assertEqual(host.copies(0).copied(), [])
            self.assertEqual((host.world_word(0, 2, 4), host.world_word(1, 2, 4)), (9, 2))

    def test_the_copy_of_another_world_stays(self):
        machine = machine_of("st", registers=(9, 12, 0, 0))
        host = host_of(machine, machine)
        for w in (0, 1):
            host.do(("patch", w, 1))
        self.follow(host, 0)
        self.assertEqual((host.copies(0).copied(), host.copies(1).copied()), ([], [2]))

    def test_nothing_else_ends_it(self):
        for meaning in (MEANING, NO_STOP):
            machine = machine_of("inc", "ld", "svc", registers=(0, 20, 0, 0), meaning=meaning)
            host = host_of(machine, machine, meaning=meaning, frames=(0, 1, 2, 3))
            for page in range(4):
                host.do(("patch", 0, page))
            choices = [("step", 0)] * 3 + [("bring", 0, 2), ("bring", 1, 2), ("share",), ("out", 0, 2), ("drop", 0), ("out", 1, 2)]
            choices += [("special", "table", 9), ("answer", 0, "tty", 3), ("arrive", 0, 3), ("patch", 1, 0), ("unpatch", 1, 0)]
            choices += [("bring", 0, k) for k in range(7)] + [("close", 1), ("step", 0)]
            for choice in choices:
                host.do(choice)
                copies = host.copies(0)
                self.assertEqual(copies.copied() + copies.closed(), [1, 2, 3, 4])
                self.assertEqual(stock_of(host).copies(0), copies.copied())
                self.assertIsNone(untrue(host))


class Copied(Base):
    """Steps at patched frames."""

    def test_doubtful_words_stop_in_the_copy(self):
        host = host_of(machine_of("bad", "inc", "bad", specials={"mode": 3}))
        host.do(("patch", 0, 0))
        self.step_told(host, 0, DONE, (1, 1, 1))
        self.assertEqual(host.machine(0).registers()[0], 3)
        self.step_told(host, 0, DONE, (2, 1, 1))
        self.step_told(host, 0, DONE, (3, 1, 2))
        self.assertEqual(entries(host, 0), {0: (0, "x", (0, 0))})
        self.assertEqual(stock_of(host).lying(0), [(0, ("copy", 1))])
        self.assertEqual(host.box().frames()[0], [0, 17, 0] + [0] * 5)
        self.assertEqual(host.where(0, 1), ("out",))

    def test_without_a_copy_the_box_shows(self):
        host = host_of(machine_of("bad", specials={"mode": 3}))
        stepped(host, 0)
        self.assertEqual(host.machine(0).registers()[0], 0)

    def test_a_wild_instruction_changes_the_box_and_not_the_mode_behind(self):
        host = host_of(machine_of("wild", registers=(3, 5, 0, 0)))
        self.assertEqual(stepped(host, 0), [DONE])
        self.assertEqual(host.box().specials()["mode"], 0)
        self.assertEqual((host.box().special("table"), host.box().outs()["tty"], host.box().answers()["tty"]), (5, [3], [22]))
        self.assertEqual(host.machine(0).specials(), machine_of("wild").specials())
        self.assertEqual((host.machine(0).registers(), host.machine(0).outs()["tty"]), ([21, 5, 0, 0], []))
        self.assertIsNone(untrue(host))

    def test_a_closed_frame_is_emulated(self):
        host = host_of(machine_of("bad", "inc", "ld", registers=(0, 1, 0, 0), specials={"mode": 3}, meaning=NO_STOP), meaning=NO_STOP)
        host.do(("patch", 0, 0))
        for counts in ((1, 0, 1), (2, 0, 2), (3, 0, 3)):
            self.step_told(host, 0, DONE, counts)
        self.assertEqual((rights(host, 0), host.machine(0).registers()[0]), ({}, 17))

    def test_loads_of_a_copied_frame_are_emulated(self):
        host = host_of(machine_of("ld", registers=(0, 8, 0, 0), frames=[words_of("bad", "wild")]))
        host.do(("patch", 0, 1))
        self.step_told(host, 0, DONE, (1, 1, 1))
        self.assertEqual(host.machine(0).registers()[0], 29)
        host = host_of(machine_of("ld", registers=(0, 8, 0, 0), meaning=NO_STOP), meaning=NO_STOP)
        host.do(("patch", 0, 1))
        self.step_told(host, 0, DONE, (1, 2, 0))

    def test_two_pages_of_a_patched_frame(self):
        host = host_of(machine_of("jmp", "inc", registers=(0, 17, 0, 0), table=(1, 2, 1, 4)))
        host.do(("patch", 0, 2))
        self.assertEqual(host.copies(0).copied(), [1])
        self.follow(host, 0, 2)
        self.assertEqual(entries(host, 0), {0: (0, "x", (0, 0)), 2: (0, "x", (0, 2))})

    def test_a_copy_is_kept_while_a_step_is_made(self):
        host = host_of(machine_of("three", registers=(0, 8, 16, 24)), frames=(0, 1, 2, 3))
        host.do(("patch", 0, 0))
        self.step_told(host, 0, DONE, (1, 4, 0))
        self.assertEqual(stock_of(host).lying(0), [(0, ("copy", 1))])
        host.do(("bring", 0, 5))
        self.assertEqual((stock_of(host).lying(0), host.copies(0).copied()), ([(0, 5)], [1]))
        self.assertEqual(rights(host, 0), {1: "r", 2: "r", 3: "w"})


class Falling(Base):
    """S5.3: which entries fall by choices, and which ones stay."""

    def two_worlds(self, **told):
        """A host whose worlds have mapped the frames 1 (x), 2 (r), 3 (r) and 4 (w) each."""
        machine = machine_of("three", "inc", registers=(0, 8, 16, 24), **told)
        host = host_of(machine, machine, meaning=machine.meaning())
        for w in (0, 1):
            self.follow(host, w)
            self.assertEqual(rights(host, w), {0: "x", 1: "r", 2: "r", 3: "w"})
        return host

    def left(self, host):
        """The pages that are mapped, for both worlds."""
        self.assertIsNone(untrue(host))
        return [sorted(rights(host, w)) for w in (0, 1)]

    def test_out(self):
        host = self.two_worlds()
        host.do(("out", 0, 2))
        self.assertEqual(self.left(host), [[0, 2, 3], [0, 1, 2, 3]])
        host.do(("out", 1, 4))
        self.assertEqual(self.left(host), [[0, 2, 3], [0, 1, 2]])
        host.do(("out", 0, 5))
        self.assertEqual(self.left(host), [[0, 2, 3], [0, 1, 2]])

    def test_out_of_a_shared_frame(self):
        host = self.two_worlds()
        host.do(("share",))
        for w in (0, 1):
            self.follow(host, w)
            host.take_over(w, with_changes(host.machine(w), pc=0))
            self.follow(host, w)
        self.assertEqual((host.where(0, 2), host.where(1, 2)), (("shared", 1), ("shared", 1)))
        self.assertEqual(self.left(host), [[0, 1, 2, 3]] * 2)
        host.do(("out", 0, 2))
        self.assertEqual(self.left(host), [[0, 2, 3], [0, 1, 2, 3]])
        self.assertEqual(host.where(1, 2), ("in", 1))

    def test_bringing_what_is_out_where_the_box_is_full(self):
        host = self.two_worlds()
        for frame in (0, 5, 6):
            host.do(("bring", 0, frame))
        self.assertEqual(self.left(host), [[0, 1, 2, 3]] * 2)
        host.do(("bring", 1, 0))
        self.assertEqual(self.left(host), [[0, 1, 2, 3]] * 2)
        for frame, left in ((5, [1, 2, 3]), (6, [2, 3])):
            host.do(("bring", 1, frame))
            self.assertEqual(self.left(host), [left, [0, 1, 2, 3]])

    def test_shared(self):
        host = self.two_worlds()
        self.assertEqual([host.where(w, 1) for w in (0, 1)], [("in", 0), ("in", 4)])
        self.assertEqual(host.do(("share",)), 4)
        # Those of world 0 lie where they lay: only the one with "w" falls. Those of world 1 moved.
        self.assertEqual(self.left(host), [[0, 1, 2], []])
        self.assertEqual(rights(host, 0), {0: "x", 1: "r", 2: "r"})

    def test_shared_alone_lets_nothing_fall(self):
        host = host_of(machine_of("three", registers=(0, 8, 16, 24)))
        self.follow(host, 0)
        self.assertEqual((host.do(("share",)), rights(host, 0)), (0, {0: "x", 1: "r", 2: "r", 3: "w"}))

    def test_patched(self):
        host = self.two_worlds()
        host.do(("patch", 0, 1))
        self.assertEqual(self.left(host), [[0, 2, 3], [0, 1, 2, 3]])
        host.do(("patch", 1, 0))
        self.assertEqual(self.left(host), [[0, 2, 3], [1, 2, 3]])
        host.do(("out", 0, 4))
        host.do(("patch", 0, 3))
        self.assertEqual(self.left(host), [[0, 2], [1, 2, 3]])

    def test_closed(self):
        host = self.two_worlds(meaning=NO_STOP)
        host.do(("patch", 0, 1))
        self.assertEqual(self.left(host), [[0, 2, 3], [0, 1, 2, 3]])
        self.assertEqual((host.copies(0).closed(), host.copies(0).copied()), ([2], []))

    def test_patched_where_another_frame_of_the_world_lies(self):
        for meaning in (MEANING, NO_STOP):
            machine = machine_of("three", "inc", registers=(0, 8, 16, 24), frames=[[6] * 8, [6] * 8], meaning=meaning)
            host = host_of(machine, machine, meaning=meaning)
            for w in (0, 1):
                for frame in (2, 3):
                    host.do(("bring", w, frame))
            host.do(("share",))
            for w in (0, 1):
                self.follow(host, w)
            self.assertEqual(self.left(host), [[0, 1, 2, 3]] * 2)
            host.do(("patch", 0, 1))
            self.assertEqual(self.left(host), [[0, 3], [0, 1, 2, 3]])

    def test_unpatched(self):
        host = self.two_worlds()
        host.do(("patch", 0, 0))
        self.follow(host, 0)
        self.assertEqual(self.left(host), [[0, 1, 2, 3]] * 2)
        host.do(("unpatch", 0, 0))
        self.assertEqual(self.left(host), [[1, 2, 3], [0, 1, 2, 3]])
        host.do(("patch", 0, 1))
        host.do(("unpatch", 0, 1))
        self.assertEqual(self.left(host), [[2, 3], [0, 1, 2, 3]])

    def test_unpatched_where_no_copy_was_made(self):
        host = self.two_worlds(meaning=NO_STOP)
        host.do(("patch", 0, 1))
        host.do(("unpatch", 0, 1))
        self.assertEqual((self.left(host), host.copies(0).closed()), ([[0, 2, 3], [0, 1, 2, 3]], []))

    def test_closing_a_world(self):
        host = self.two_worlds()
        host.do(("patch", 0, 0))
        self.follow(host, 0)
        host.do(("close", 0))
        self.assertEqual((sorted(rights(host, 1)), stock_of(host).free()), ([0, 1, 2, 3], [0, 1, 2, 3, 8, 9, 10, 11]))
        self.follow(host, 1)

    def test_dropped(self):
        host = self.two_worlds()
        host.do(("drop", 0))
        self.assertEqual(self.left(host), [[], [0, 1, 2, 3]])
        self.assertEqual(host.where(0, 1), ("in", 0))
        self.step_told(host, 0, DONE, (2, 5, 0))

    def test_a_step_alone(self):
        machine = machine_of("st", registers=(9, 12, 0, 0), table=(1, 12, 3, 4))
        host = host_of(machine)
        host.do(("patch", 0, 0))
        self.assertEqual(step(host.machine(0))[1], ("done",))
        self.step_told(host, 0, DONE, (1, 1, 1))


if __name__ == "__main__":
    unittest.main()
