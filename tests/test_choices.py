"""Choices: S5.6, S5.7, and the interface of worldsalone/choices.py."""

import unittest

from hosts import MEANING, NO_STOP, entries, host_of, machine_of, rights, stepped, stock_of, untrue, whole
from samples import NAMES, ODD, assert_new, made, one_book, one_meaning, some_specials, with_changes
from worldsalone.bare import Box
from worldsalone.choices import can_do, do_all, is_choice
from worldsalone.errors import BadChoice
from worldsalone.host import Host
from worldsalone.machines import answered, arrived
from worldsalone.meanings import Meaning
from worldsalone.steps import run

FORMS = {
    "step": (0,),
    "bring": (0, 1),
    "out": (0, 1),
    "share": (),
    "drop": (0,),
    "special": ("was", 3),
    "answer": (0, "tty", 3),
    "arrive": (0, 3),
    "patch": (0, 1),
    "unpatch": (0, 1),
    "close": (0,),
}


def some_choices():
    """One right choice of each form, for a host of one world whose page 1 is patched for unpatch."""
    return [(kind, *members) for kind, members in FORMS.items()]


class Forms(unittest.TestCase):
    def test_each_form(self):
        for choice in some_choices():
            self.assertIs(is_choice(choice), True, choice)

    def test_numbers_of_any_size_and_any_strings(self):
        for choice in (("step", 99), ("bring", 10 ** 30, 10 ** 30), ("special", "mode", 0), ("special", "", 10 ** 30)):
            self.assertIs(is_choice(choice), True, choice)
        for choice in (("answer", 7, "No Port", 99), ("arrive", 3, 99), ("patch", 9, 99), ("special", "x" * 50, 1)):
            self.assertIs(is_choice(choice), True, choice)

    def test_too_few_and_too_many_members(self):
        for choice in some_choices():
            if len(choice) > 1:
                self.assertIs(is_choice(choice[:-1]), False, choice)
            for more in (0, "tty", None, ()):
                self.assertIs(is_choice(choice + (more,)), False, choice)
            self.assertIs(is_choice(list(choice)), False, choice)
        self.assertIs(is_choice(("answer", 0, "tty", 3, 0)), False)
        self.assertIs(is_choice(()), False)

    def test_each_member_wrong_in_each_way(self):
        for choice in some_choices():
            for k in range(1, len(choice)):
                told = isinstance(choice[k], str)
                for thing in ODD + (b"tty", ("tty",), -5, "0", 0, 5):
                    due = isinstance(thing, str) if told else isinstance(thing, int) and not isinstance(thing, bool) and thing >= 0
                    self.assertIs(is_choice(choice[:k] + (thing,) + choice[k + 1:]), due, (choice, k, thing))

    def test_the_first_member(self):
        for thing in ODD + ("Step", "steps", "opened", 0, ("step",), ["step"], b"step"):
            for members in ((), (0,), (0, 1), (0, "tty", 3)):
                self.assertIs(is_choice((thing, *members)), False, thing)

    def test_things_of_other_kinds(self):
        host = host_of(machine_of("inc"))
        for thing in ODD + ("step", "share", ["share"], {"step": 0}, host.machine(0), MEANING, host.copies(0), (host.machine(0),)):
            self.assertIs(is_choice(thing), False, thing)
            self.assertIs(can_do(host, thing), False, thing)
            with self.assertRaises(BadChoice):
                host.do(thing)


class CanBeMade(unittest.TestCase):
    def setUp(self):
        self.host = host_of(machine_of("inc", "ld", registers=(0, 8, 0, 0), count=6), machine_of("inc"), machine_of("inc"))
        stepped(self.host, 0)
        self.host.do(("patch", 0, 2))
        self.host.do(("close", 2))

    def can(self, choice, told=True, host=None):
        host = self.host if host is None else host
        before = whole(host)
        self.assertIs(can_do(host, choice), told, choice)
        self.assertEqual(whole(host), before)
        if not told:
            with self.assertRaises(BadChoice, msg=choice):
                host.do(choice)
            self.assertEqual(whole(host), before)

    def test_right_ones(self):
        for choice in some_choices():
            self.can(choice, choice[0] != "unpatch")
        self.can(("unpatch", 0, 2))

    def test_worlds_that_are_not_open(self):
        for choice in some_choices():
            if choice[0] not in ("share", "special"):
                for w in (2, 3, 10 ** 30):
                    self.can((choice[0], w, *choice[2:]), False)

    def test_frames(self):
        for kind in ("bring", "out"):
            for frame in range(7):
                self.can((kind, 1, frame))
            for frame in (7, 99, ("copy", 3)):
                self.can((kind, 0, frame), False)

    def test_names_of_specials(self):
        for name in NAMES:
            self.can(("special", name, 3), name != "mode")
            self.can(("special", name, 0), name != "mode")
        for name in ("", "Was", "tty", "modes"):
            self.can(("special", name, 3), False)

    def test_words_and_lines(self):
        for word, told in ((0, True), (31, True), (32, False), (10 ** 30, False)):
            self.can(("special", "was", word), told)
            self.can(("answer", 0, "net", word), told)
            self.can(("arrive", 0, word), told)

    def test_ports(self):
        for port in ("", "nope", "TTY", "was"):
            self.can(("answer", 0, port, 3), False)

    def test_answers_that_have_a_later_count(self):
        for count, told in ((0, True), (4, True), (5, True), (6, False), (99, False)):
            host = host_of(machine_of("inc", answers={"tty": [(0, 1), (count, 3)], "net": []}, count=5))
            self.can(("answer", 0, "tty", 3), told, host)
            self.can(("answer", 0, "net", 3), True, host)
            self.can(("arrive", 0, 3), True, host)
        host = host_of(machine_of("inc", "inc", answers={"tty": [(1, 3)], "net": []}))
        self.can(("answer", 0, "tty", 3), False, host)
        stepped(host, 0)
        self.can(("answer", 0, "tty", 3), True, host)

    def test_arrivals_that_have_a_later_count(self):
        for count, told in ((0, True), (5, True), (6, False), (99, False)):
            host = host_of(machine_of("inc", arrivals=[(0, 1), (count, 3)], count=5))
            self.can(("arrive", 0, 3), told, host)
            self.can(("answer", 0, "tty", 3), True, host)

    def test_pages(self):
        for kind in ("patch", "unpatch"):
            for page in (4, 5, 7, 99):
                self.can((kind, 0, page), False)

    def test_patched_pages(self):
        for meaning in (MEANING, NO_STOP):
            host = host_of(machine_of("inc", table=(1, 2, 2, 13), meaning=meaning), meaning=meaning)
            pages = {0: False, 1: True, 2: True, 3: None}
            for page in pages:
                self.can(("patch", 0, page), page != 3, host)
                self.can(("unpatch", 0, page), False, host)
            host.do(("patch", 0, 2))
            for page, is_patched in pages.items():
                self.can(("patch", 0, page), is_patched is False, host)
                self.can(("unpatch", 0, page), is_patched is True, host)
            host.do(("unpatch", 0, 1))
            self.can(("unpatch", 0, 2), False, host)
            self.can(("patch", 0, 1), True, host)

    def test_pages_without_a_frame(self):
        for table in ((0, 13, 14, 4), (0, 99 % 32, 15, 4)):
            host = host_of(machine_of("inc", table=table))
            for page in range(3):
                has_frame = host.machine(0).frames()[0][page] in range(1, 13)
                self.can(("patch", 0, page), has_frame, host)
        host = host_of(machine_of("inc", specials={"table": 7}))
        for page in range(4):
            self.can(("patch", 0, page), False, host)

    def test_places_beyond_the_pages(self):
        # L is 4 and P is 2 here, so pages 2 and 3 are none, although the table has words there.
        meaning = one_meaning(one_book(()))
        few = Meaning(meaning.book(), 4, 2, {}, {1: (1, "all", "rwx")}, {})
        host = Host(Box(few, [[0] * 4] * 4, some_specials(), {"tty": [], "net": []}), [0, 1, 2, 3], [])
        host.open_world(made(few, frames=[[1] * 4, [0] * 4]))
        for page, told in ((0, True), (1, True), (2, False), (3, False)):
            self.can(("patch", 0, page), told, host)

    def test_a_machine_without_a_user_mode_page(self):
        host = host_of(machine_of("inc", table=(7, 2, 3, 4)))
        self.can(("patch", 0, 0), True, host)

    def test_wrong_members_change_nothing(self):
        for choice in some_choices() + [("unpatch", 0, 2)]:
            for k in range(1, len(choice)):
                for thing in ODD + (("copy", 1), "nope", 10 ** 30):
                    self.can(choice[:k] + (thing,) + choice[k + 1:], False)


class Made(unittest.TestCase):
    def make(self, host, choice, told=None):
        """Makes a choice and checks what it tells and that the log has it."""
        before = host.log()
        self.assertTrue(can_do(host, choice))
        self.assertEqual(host.do(choice), told)
        count = host.machine(choice[1]).count() if choice[0] in ("answer", "arrive") else None
        self.assertEqual(host.log(), before + [choice if count is None else choice + (count,)])
        self.assertIsNone(untrue(host))

    def test_steps(self):
        host = host_of(machine_of("inc", "svc"))
        self.make(host, ("step", 0), ("done",))
        self.make(host, ("step", 0), ("trap", "help"))

    def test_bringing_and_putting_out(self):
        host = host_of(machine_of("inc"), machine_of("inc"))
        self.make(host, ("out", 0, 3), ("out",))
        self.make(host, ("bring", 0, 3), ("in", 0))
        self.make(host, ("bring", 0, 3), ("in", 0))
        self.make(host, ("bring", 1, 3), ("in", 1))
        self.make(host, ("share",), 1)
        self.make(host, ("bring", 1, 3), ("shared", 0))
        self.make(host, ("out", 0, 3), ("out",))
        self.assertEqual(host.where(1, 3), ("in", 0))
        self.make(host, ("out", 1, 3), ("out",))
        self.assertEqual(stock_of(host).full(), [])

    def test_bringing_into_a_full_box(self):
        host = host_of(machine_of("inc"), frames=(0, 2, 4, 6))
        for frame, g in ((1, 0), (2, 2), (3, 4), (4, 6), (5, 0), (6, 2)):
            self.make(host, ("bring", 0, frame), ("in", g))
        self.assertEqual([host.where(0, k) for k in (1, 2, 3)], [("out",), ("out",), ("in", 4)])

    def test_sharing_tells_how_many_became_free(self):
        alike = [[9] * 8] * 4
        host = host_of(machine_of("inc", frames=alike), machine_of("inc", frames=alike))
        self.make(host, ("share",), 0)
        for frame in range(7):
            host.do(("bring", 0, frame))
        self.make(host, ("share",), 3)
        self.make(host, ("bring", 1, 2), ("in", 3))
        self.make(host, ("share",), 1)
        self.make(host, ("share",), 0)

    def test_dropping(self):
        host = host_of(machine_of("inc"), machine_of("inc"))
        stepped(host, 0)
        stepped(host, 1)
        self.make(host, ("drop", 0))
        self.assertEqual((entries(host, 0), rights(host, 1)), ({}, {0: "x"}))
        self.make(host, ("drop", 0))

    def test_specials_of_the_box(self):
        host = host_of(machine_of("inc"))
        before = host.machine(0)
        told = {}
        for k, name in enumerate(NAMES[1:]):
            self.make(host, ("special", name, 20 + k))
            told[name] = 20 + k
            self.assertEqual(host.box().specials(), some_specials(**told))
        self.assertEqual(host.machine(0), before)

    def test_answers(self):
        host = host_of(machine_of("inc", count=3, answers={"tty": [(1, 4)], "net": []}), machine_of("inc"))
        before = host.machine(0)
        self.make(host, ("answer", 0, "tty", 5))
        self.make(host, ("answer", 0, "tty", 6))
        self.assertEqual(host.machine(0), answered(answered(before, "tty", 5), "tty", 6))
        self.assertEqual(host.machine(0).answers(), {"tty": [(1, 4), (3, 5), (3, 6)], "net": []})
        self.assertEqual(host.machine(1), machine_of("inc"))
        self.assertEqual(host.box().answers(), {"tty": [21, 22], "net": []})

    def test_arrivals(self):
        host = host_of(machine_of("inc", count=3, specials={"enabled": 1}))
        before = host.machine(0)
        self.make(host, ("arrive", 0, 5))
        self.make(host, ("arrive", 0, 2))
        self.assertEqual(host.machine(0), arrived(arrived(before, 5), 2))
        self.make(host, ("step", 0), ("trap", "line"))
        self.assertEqual((host.world_special(0, "fault"), host.machine(0).lines()), (2, (5,)))

    def test_answers_and_arrivals_let_nothing_fall(self):
        host = host_of(machine_of("inc"))
        stepped(host, 0)
        self.make(host, ("answer", 0, "tty", 5))
        self.make(host, ("arrive", 0, 5))
        self.assertEqual((rights(host, 0), host.counts(0)), ({0: "x"}, (1, 1, 0)))

    def test_patching(self):
        host = host_of(machine_of("bad", "inc", "bad", specials={"mode": 2}))
        self.make(host, ("patch", 0, 0))
        self.assertEqual((host.copies(0).copied(), host.copies(0).closed()), ([1], []))
        self.assertEqual(stock_of(host).frame_words(0, ("copy", 1)), [0, 17, 0, 0, 0, 0, 0, 0])
        self.assertEqual(host.machine(0).frames()[1][:3], [29, 17, 29])
        self.make(host, ("unpatch", 0, 0))
        self.assertEqual((host.copies(0).copied(), stock_of(host).copies(0)), ([], []))

    def test_closing_frames(self):
        host = host_of(machine_of("bad", meaning=NO_STOP), meaning=NO_STOP)
        self.make(host, ("patch", 0, 0))
        self.assertEqual((host.copies(0).copied(), host.copies(0).closed(), stock_of(host).copies(0)), ([], [1], []))
        self.make(host, ("unpatch", 0, 0))
        self.assertEqual(host.copies(0).closed(), [])

    def test_closing_worlds(self):
        host = host_of(machine_of("inc"), machine_of("inc"))
        stepped(host, 0)
        host.do(("bring", 0, 5))
        stepped(host, 1)
        self.make(host, ("close", 0))
        self.assertEqual((host.worlds(), stock_of(host).full(), stock_of(host).free()[:2]), ([1], [2], [0, 1]))
        self.make(host, ("bring", 1, 3), ("in", 0))


class All(unittest.TestCase):
    def test_what_they_tell(self):
        host = host_of(machine_of("inc", "svc"))
        choices = [("step", 0), ("bring", 0, 3), ("share",), ("step", 0), ("answer", 0, "tty", 3), ("close", 0)]
        self.assertEqual(do_all(host, choices), [("done",), ("in", 1), 0, ("trap", "help"), None, None])
        self.assertEqual((do_all(host, []), do_all(host, ())), ([], []))
        self.assertEqual(do_all(host, (("share",), ("special", "was", 3))), [0, None])

    def test_those_ahead_of_a_wrong_one_stay_made(self):
        for wrong in (("step", 1), ("nope",), None, ("special", "mode", 0)):
            machine = machine_of("inc", "inc")
            host = host_of(machine)
            choices = [("step", 0), ("bring", 0, 3), wrong, ("step", 0)]
            kept = list(choices)
            with self.assertRaises(BadChoice):
                do_all(host, choices)
            self.assertEqual(choices, kept)
            self.assertEqual(host.machine(0), run(machine, 1)[0])
            self.assertEqual(host.log(), [("opened", 0, machine), ("step", 0), ("bring", 0, 3)])

    def test_a_choice_that_becomes_wrong(self):
        host = host_of(machine_of("inc"))
        with self.assertRaises(BadChoice):
            do_all(host, [("close", 0), ("step", 0)])
        self.assertEqual(host.worlds(), [])

    def test_lists_are_new(self):
        host = host_of(machine_of("inc"))
        assert_new(self, lambda: do_all(host, [("share",)]))
        assert_new(self, lambda: do_all(host, []))

    def test_a_machine_that_is_passed_on_stays(self):
        machine = machine_of("inc")
        host = host_of(machine)
        do_all(host, [("step", 0), ("answer", 0, "tty", 3)])
        self.assertEqual(machine, with_changes(machine_of("inc")))


if __name__ == "__main__":
    unittest.main()
