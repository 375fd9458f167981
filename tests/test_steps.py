"""Steps: S2.3, S2.4, and step, run, due, emulated, trapped and passed."""

import unittest

from samples import A, B, CAUSES, ODD, T0, going, some_specials, spoil, with_changes
from worldsalone.errors import UnknownName
from worldsalone.machines import arrived
from worldsalone.steps import due, emulated, passed, run, step, trapped

MOVE = (("move", A, B),)
TRAPS = {"page": 0, "code": 1, "line": 2, "timer": 3, "oops": 4, "help": 5}


def ready(**told):
    """A machine whose next instruction gives register 0 the word 7 of register 1; specials are those told."""
    specials = some_specials(**told.pop("specials", {}))
    return going(MOVE, **{"registers": [5, 7, 9], "specials": specials, **told})


def behind_trap(machine, cause, **told):
    """The machine with all that a trap changes in any case, and the other changes that are told."""
    specials = {"back": machine.pc(), "was": machine.special("mode"), "cause": TRAPS[cause], "mode": 1, "enabled": 0}
    specials.update(told.pop("specials", {}))
    changes = {"specials": specials, "pc": machine.special("handler"), "count": machine.count() + 1, **told}
    return with_changes(machine, **changes)


class Traps(unittest.TestCase):
    usual = {"handler": 13, "back": 3, "was": 4, "cause": 9, "enabled": 6, "fault": 8, "table": 0}

    def test_trap_of_each_cause(self):
        for cause in ("code", "oops", "help"):
            for mode in (0, 1, 5):
                machine = ready(pc=6, specials={**self.usual, "mode": mode}, is_out=True, lines=(3, 4))
                self.assertEqual(trapped(machine, cause, None), behind_trap(machine, cause))

    def test_trap_page_has_an_address(self):
        for address in (0, 15):
            machine = ready(pc=6, specials=self.usual, is_out=True, lines=(3, 4))
            self.assertEqual(trapped(machine, "page", address), behind_trap(machine, "page", specials={"fault": address}))

    def test_trap_line_takes_the_least_line(self):
        machine = ready(pc=6, specials=self.usual, is_out=True, lines=(3, 4, 11))
        expected = behind_trap(machine, "line", lines=(4, 11), specials={"fault": 3})
        self.assertEqual(trapped(machine, "line", None), expected)

    def test_trap_line_takes_a_line_that_has_just_come(self):
        machine = ready(pc=6, specials=self.usual, lines=(3,), arrivals=[(0, 1), (2, 0)])
        expected = behind_trap(machine, "line", lines=(3,), specials={"fault": 1}, arrivals=[(2, 0)])
        self.assertEqual(trapped(machine, "line", None), expected)

    def test_trap_timer_lets_the_flag_fall(self):
        machine = ready(pc=6, specials=self.usual, is_out=True, lines=(3, 4))
        self.assertEqual(trapped(machine, "timer", None), behind_trap(machine, "timer", is_out=False))

    def test_arrivals_come_and_the_timer_runs(self):
        machine = ready(pc=6, specials={**self.usual, "timer": 2}, count=3, arrivals=[(2, 9), (4, 1)], lines=(12,))
        expected = behind_trap(machine, "code", specials={"timer": 1}, arrivals=[(4, 1)], lines=(9, 12))
        self.assertEqual(trapped(machine, "code", None), expected)

    def test_timer_that_runs_out_behind_a_trap(self):
        for cause in ("code", "timer"):
            machine = ready(pc=6, specials={**self.usual, "timer": 1}, is_out=True)
            expected = behind_trap(machine, cause, specials={"timer": 0}, is_out=True)
            self.assertEqual(trapped(machine, cause, None), expected)

    def test_causes_that_are_not_there(self):
        for thing in ODD + ("more", "tty", "mode", 0, ("page",), ["page"]):
            with self.assertRaises(UnknownName) as caught:
                trapped(ready(), thing, None)
            self.assertIs(caught.exception.name, thing)

    def test_numbers_of_causes(self):
        told = [trapped(ready(lines=(0,)), cause, None).special("cause") for cause in ["page", "code", "line", "timer"][1:]]
        self.assertEqual(told, [1, 2, 3])
        self.assertEqual([trapped(ready(), cause, None).special("cause") for cause in CAUSES], [4, 5])

    def test_the_machine_stays(self):
        machine = ready(specials=self.usual, lines=(1,), arrivals=[(0, 2)])
        trapped(machine, "line", None)
        self.assertEqual(machine, ready(specials=self.usual, lines=(1,), arrivals=[(0, 2)]))


class Steps(unittest.TestCase):
    def test_an_instruction_is_done(self):
        machine = ready()
        self.assertEqual(step(machine), (with_changes(machine, registers=[7, 7, 9], pc=1, count=1), ("done",)))
        self.assertEqual(machine, ready())

    def test_arrivals_come(self):
        machine = ready(count=3, arrivals=[(0, 4), (1, 2), (3, 4), (3, 0), (4, 1)], lines=(2, 9))
        behind, event = step(machine)
        self.assertEqual(event, ("done",))
        self.assertEqual(behind.lines(), (0, 2, 4, 9))
        self.assertEqual(behind.arrivals(), [(4, 1)])
        self.assertEqual(behind, with_changes(
            machine, lines=(0, 2, 4, 9), arrivals=[(4, 1)], registers=[7, 7, 9], pc=1, count=4))
        self.assertEqual(step(behind)[0].lines(), (0, 1, 2, 4, 9))

    def test_a_line_that_has_just_come_traps(self):
        for enabled in (1, 2, 15):
            machine = ready(count=3, arrivals=[(3, 4)], specials={"enabled": enabled, "handler": 2})
            expected = behind_trap(machine, "line", arrivals=[], specials={"fault": 4})
            self.assertEqual(step(machine), (expected, ("trap", "line")))
            self.assertEqual(due(machine), "line")

    def test_an_arrival_that_is_not_due(self):
        machine = ready(count=3, arrivals=[(4, 4)], specials={"enabled": 1})
        self.assertIsNone(due(machine))
        self.assertEqual(step(machine)[1], ("done",))
        self.assertEqual(due(step(machine)[0]), "line")

    def test_several_lines_that_wait(self):
        machine = ready(lines=(3, 5), arrivals=[(0, 4), (0, 3)], specials={"enabled": 1})
        behind, event = step(machine)
        self.assertEqual((event, behind.lines(), behind.special("fault")), (("trap", "line"), (4, 5), 3))
        self.assertEqual(behind.special("enabled"), 0)
        again = with_changes(behind, specials={"enabled": 1, "mode": 0}, pc=0)
        self.assertEqual(step(again)[0].lines(), (5,))
        self.assertEqual(step(again)[0].special("fault"), 4)

    def test_line_comes_ahead_of_timer(self):
        machine = ready(lines=(3,), is_out=True, specials={"enabled": 1})
        self.assertEqual(due(machine), "line")
        behind, event = step(machine)
        self.assertEqual((event, behind.is_out()), (("trap", "line"), True))

    def test_trap_timer(self):
        machine = ready(is_out=True, specials={"enabled": 9, "handler": 11})
        self.assertEqual(due(machine), "timer")
        self.assertEqual(step(machine), (behind_trap(machine, "timer", is_out=False), ("trap", "timer")))

    def test_nothing_is_due_if_it_is_not_enabled(self):
        machine = ready(lines=(3,), is_out=True, arrivals=[(0, 1)])
        self.assertIsNone(due(machine))
        expected = with_changes(machine, lines=(1, 3), arrivals=[], registers=[7, 7, 9], pc=1, count=1)
        self.assertEqual(step(machine), (expected, ("done",)))

    def test_nothing_is_due_without_line_and_flag(self):
        self.assertIsNone(due(ready(specials={"enabled": 1})))
        self.assertEqual(step(ready(specials={"enabled": 1}))[1], ("done",))

    def test_due_looks_only(self):
        machine = ready(count=3, arrivals=[(3, 4)], specials={"enabled": 1})
        due(machine)
        self.assertEqual(machine, ready(count=3, arrivals=[(3, 4)], specials={"enabled": 1}))

    def test_timer(self):
        told = {0: (0, False), 1: (0, True), 2: (1, False), 15: (14, False)}
        for timer, (later, is_out) in told.items():
            behind = step(ready(specials={"timer": timer}))[0]
            self.assertEqual((behind.special("timer"), behind.is_out()), (later, is_out))

    def test_timer_keeps_the_flag(self):
        for timer, later in ((0, 0), (1, 0), (2, 1)):
            behind = step(ready(specials={"timer": timer}, is_out=True))[0]
            self.assertEqual((behind.special("timer"), behind.is_out()), (later, True))

    def test_timer_that_the_instruction_puts(self):
        for timer, later, is_out in ((0, 0, False), (1, 0, True), (5, 4, False)):
            machine = going((("put", "timer", A),), registers=[timer, 0, 0], specials=some_specials(timer=1))
            behind = step(machine)[0]
            self.assertEqual((behind.special("timer"), behind.is_out()), (later, is_out))

    def test_put_leaves_the_flag(self):
        behind = step(going((("put", "timer", A),), registers=[0, 0, 0], is_out=True))[0]
        self.assertIs(behind.is_out(), True)

    def test_timer_runs_behind_a_trap_of_the_instruction(self):
        rows = (("put", "timer", A), ("trap", "oops"))
        machine = going(rows, registers=[9, 0, 0], specials=some_specials(timer=1, handler=3))
        behind, event = step(machine)
        self.assertEqual(event, ("trap", "oops"))
        self.assertEqual(behind, behind_trap(machine, "oops", specials={"timer": 0}, is_out=True))

    def test_trap_timer_while_the_timer_runs_out(self):
        machine = ready(is_out=True, specials={"enabled": 1, "timer": 1})
        behind = step(machine)[0]
        self.assertEqual(behind, behind_trap(machine, "timer", specials={"timer": 0}, is_out=True))

    def test_pc_is_refused(self):
        for pc in (4, 8, 12, 15):
            machine = ready(pc=pc, specials={"handler": 6})
            expected = behind_trap(machine, "page", specials={"fault": pc})
            self.assertEqual(step(machine), (expected, ("trap", "page")))

    def test_pc_without_a_table(self):
        machine = ready(specials={"table": 3})
        self.assertEqual(step(machine), (behind_trap(machine, "page", specials={"fault": 0}), ("trap", "page")))

    def test_pc_on_a_page_for_system_mode(self):
        frames = [[5, 6, 3, 4], [8, 9, 0, 8], [10, 11, 12, 13]]
        self.assertEqual(step(ready(frames=frames))[1], ("trap", "page"))
        self.assertEqual(step(ready(frames=frames, specials={"mode": 2}))[1], ("done",))

    def test_word_without_code(self):
        machine = ready(pc=2, specials={"handler": 6, "fault": 3})
        self.assertEqual(step(machine), (behind_trap(machine, "code"), ("trap", "code")))

    def test_the_mode_chooses_the_rows(self):
        for mode, cause in ((0, "oops"), (1, "help"), (9, "help")):
            machine = going((("trap", "oops"),), (("trap", "help"),), specials=some_specials(mode=mode, handler=2))
            expected = behind_trap(machine, cause)
            self.assertEqual(step(machine), (expected, ("trap", cause)))
            self.assertEqual(expected.special("was"), mode)

    def test_the_last_word_of_all(self):
        frames = [[1, 6, 3, 1], [8, 9, 0, 8], [10, 11, 12, 13]]
        self.assertEqual(step(ready(frames=frames, pc=15))[0].pc(), 0)
        self.assertEqual(step(ready(frames=frames, pc=12))[0].pc(), 13)
        self.assertEqual(step(ready(pc=3))[0].pc(), 4)
        self.assertEqual(step(ready(pc=1))[0], with_changes(ready(pc=1), pc=2, count=1))

    def test_refused_rows(self):
        rows = (("move", A, B), ("put", "fault", B), ("store", B, A), ("out", "tty", A))
        machine = going(rows, registers=[5, 13, 9], specials=some_specials(handler=6))
        expected = behind_trap(machine, "page", specials={"fault": 13})
        self.assertEqual(step(machine), (expected, ("trap", "page")))

    def test_great_counts(self):
        great = 10 ** 30
        machine = ready(count=great, arrivals=[(great, 1), (great + 1, 2)])
        behind = step(machine)[0]
        self.assertEqual((behind.count(), behind.lines(), behind.arrivals()), (great + 1, (1,), [(great + 1, 2)]))


class Runs(unittest.TestCase):
    def test_no_steps(self):
        machine = ready(arrivals=[(0, 1)], specials={"timer": 1})
        self.assertEqual(run(machine, 0), (machine, []))
        self.assertEqual(run(machine, 0)[0].arrivals(), [(0, 1)])

    def test_events_in_order(self):
        machine = ready(specials={"handler": 1, "timer": 2, "enabled": 1})
        behind, events = run(machine, 5)
        # go, nop (the timer runs out), the trap, nop at the handler, and a word without code.
        expected = [("done",), ("done",), ("trap", "timer"), ("done",), ("trap", "code")]
        self.assertEqual(events, expected)
        self.assertEqual((behind.count(), behind.pc(), behind.special("back")), (5, 1, 2))
        once = machine
        for event in expected:
            once, told = step(once)
            self.assertEqual(told, event)
        self.assertEqual(behind, once)

    def test_runs_join(self):
        machine = arrived(ready(specials={"handler": 1, "timer": 3, "enabled": 1}), 6)
        first, events = run(machine, 7)
        second, more = run(first, 20)
        self.assertEqual(run(machine, 27), (second, events + more))
        self.assertEqual(len(more), 20)

    def test_lists_are_new(self):
        first, second = run(ready(), 3)[1], run(ready(), 3)[1]
        self.assertIsNot(first, second)
        spoil(first)
        self.assertEqual(run(ready(), 3)[1], second)
        self.assertIsNot(run(ready(), 0)[1], run(ready(), 0)[1])

    def test_the_machine_stays(self):
        machine = ready(specials={"handler": 1, "timer": 2, "enabled": 1})
        run(machine, 5)
        self.assertEqual(machine, ready(specials={"handler": 1, "timer": 2, "enabled": 1}))


class Parts(unittest.TestCase):
    def test_emulated_is_step_if_nothing_is_due(self):
        for machine in (
            ready(), ready(pc=2), ready(pc=9), ready(lines=(1,)), ready(is_out=True), ready(specials={"timer": 1}),
            going((("trap", "help"),)), going((("store", A, A),), registers=[12, 0, 0]),
        ):
            self.assertIsNone(due(machine))
            self.assertEqual(emulated(machine), step(machine))

    def test_emulated_passes_over_what_is_due(self):
        machine = ready(lines=(3,), is_out=True, arrivals=[(0, 1), (1, 2)], specials={"enabled": 1, "timer": 2})
        expected = with_changes(
            machine, lines=(1, 3), arrivals=[(1, 2)], registers=[7, 7, 9], pc=1, count=1, specials={"timer": 1})
        self.assertEqual(emulated(machine), (expected, ("done",)))
        self.assertEqual(due(machine), "line")

    def test_emulated_may_trap(self):
        machine = ready(pc=2, lines=(3,), is_out=True, specials={"enabled": 1})
        self.assertEqual(emulated(machine), (behind_trap(machine, "code"), ("trap", "code")))

    def test_passed(self):
        machine = ready(count=4, lines=(3,), arrivals=[(4, 1), (5, 2)], specials={"enabled": 1, "timer": 1}, is_out=False)
        expected = with_changes(
            machine, lines=(1, 3), arrivals=[(5, 2)], registers=[1, 2, 3], pc=14, count=5, specials={"timer": 0}, is_out=True)
        registers = [1, 2, 3]
        told = passed(machine, registers, 14)
        self.assertEqual(told, expected)
        self.assertEqual(registers, [1, 2, 3])
        spoil(registers)
        self.assertEqual(told, expected)
        self.assertEqual(passed(machine, (1, 2, 3), 14), expected)
        self.assertEqual(machine.registers(), [5, 7, 9])

    def test_passed_without_a_timer(self):
        machine = ready(is_out=True, specials={"handler": 3})
        self.assertEqual(passed(machine, [0, 0, 0], 0), with_changes(machine, registers=[0, 0, 0], count=1))

    def test_temporaries_begin_with_zero_in_each_step(self):
        rows = (("prim", T0, "sum", (T0, B)), ("move", A, T0))
        machine = going(rows, registers=[0, 3, 0])
        behind = run(with_changes(machine, frames=[[1, 6, 3, 4], [8, 8, 8, 8], [0, 0, 0, 0]]), 2)[0]
        self.assertEqual(behind.registers(), [3, 3, 0])


if __name__ == "__main__":
    unittest.main()
