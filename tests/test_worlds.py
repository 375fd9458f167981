"""The machine alone of a world: S5.9 and the interface of worldsalone/worlds.py."""

import unittest

from samples import A, B, ODD, T0, assert_new, going, some_specials, spoil, with_changes
from worldsalone.choices import is_choice
from worldsalone.machines import answered, arrived
from worldsalone.steps import run, step
from worldsalone.worlds import alone, alone_told

# The instruction at 0 takes an answer, puts it out, and comes back to 0.
ROWS = (("in", A, "tty"), ("out", "tty", A), ("prim", B, "inc", (B,)), ("goto", T0))


def machine_of(**told):
    """A machine that takes answers and puts them out."""
    return going(ROWS, **told)


class Alone(unittest.TestCase):
    def test_nothing(self):
        machine = machine_of()
        self.assertEqual(alone(machine, 0, []), machine)
        self.assertEqual(alone(machine, 0, ()), machine)
        self.assertEqual(alone_told(machine, 0, []), [])

    def test_steps(self):
        machine = machine_of()
        self.assertEqual(alone(machine, 0, [("step", 0)] * 5), run(machine, 5)[0])
        self.assertEqual(alone_told(machine, 0, [("step", 0)] * 5), [("done",)] * 5)

    def test_worlds_with_numbers_that_are_no_words(self):
        machine = machine_of()
        for w in (16, 99):
            choices = [("step", w), ("answer", w, "tty", 5), ("step", w)]
            self.assertEqual(alone(machine, w, choices).outs()["tty"], [0, 5])
            self.assertEqual(alone_told(machine, w, choices), [("done",)] * 2)

    def test_what_steps_tell(self):
        machine = going((("trap", "help"),), specials=some_specials(handler=1))
        choices = [("step", 4)] * 3
        self.assertEqual(alone_told(machine, 4, choices), run(machine, 3)[1])
        self.assertEqual(alone_told(machine, 4, choices)[0], ("trap", "help"))

    def test_answers_come_at_the_count_of_the_moment(self):
        machine = machine_of(count=7)
        choices = [("step", 1), ("answer", 1, "tty", 5), ("step", 1), ("step", 1), ("answer", 1, "net", 6)]
        behind = alone(machine, 1, choices)
        self.assertEqual(behind.outs(), {"tty": [0, 5, 0], "net": []})
        self.assertEqual((behind.answers(), behind.count()), ({"tty": [], "net": [(10, 6)]}, 10))
        told = answered(run(answered(run(machine, 1)[0], "tty", 5), 2)[0], "net", 6)
        self.assertEqual(behind, told)

    def test_arrivals_come_at_the_count_of_the_moment(self):
        machine = machine_of(specials=some_specials(enabled=1, handler=1))
        choices = [("step", 0), ("arrive", 0, 9), ("arrive", 0, 3), ("step", 0)]
        behind = alone(machine, 0, choices)
        self.assertEqual((behind.lines(), behind.special("fault"), behind.arrivals()), ((9,), 3, []))
        self.assertEqual(alone_told(machine, 0, choices), [("done",), ("trap", "line")])
        self.assertEqual(behind, step(arrived(arrived(step(machine)[0], 9), 3))[0])
        self.assertEqual(alone(machine, 0, choices[:2]).arrivals(), [(1, 9)])

    def test_several_worlds(self):
        machine = machine_of()
        choices = [("step", 0), ("answer", 1, "tty", 5), ("step", 1), ("answer", 0, "tty", 6), ("arrive", 1, 2)]
        choices += [("step", 0), ("step", 1), ("step", 2), ("step", 1)]
        self.assertEqual(alone(machine, 0, choices), step(answered(step(machine)[0], "tty", 6))[0])
        one = run(arrived(step(answered(machine, "tty", 5))[0], 2), 2)[0]
        self.assertEqual(alone(machine, 1, choices), one)
        self.assertEqual(alone(machine, 3, choices), machine)
        self.assertEqual([len(alone_told(machine, w, choices)) for w in range(4)], [2, 3, 1, 0])

    def test_entries_of_a_log(self):
        machine = machine_of(count=3)
        log = [("opened", 0, machine), ("opened", 1, machine), ("step", 1), ("answer", 1, "tty", 5, 4), ("step", 1)]
        log += [("arrive", 1, 2, 5), ("step", 0), ("answer", 0, "tty", 9, 5), ("step", 1), ("close", 0)]
        choices = [("step", 1), ("answer", 1, "tty", 5), ("step", 1), ("arrive", 1, 2), ("step", 1)]
        self.assertEqual(alone(machine, 1, log), alone(machine, 1, choices))
        self.assertEqual(alone_told(machine, 1, log), [("done",)] * 3)

    def test_the_count_of_an_entry_is_not_looked_at(self):
        machine = machine_of(count=3)
        for count in (0, 3, 99, 10 ** 30, -1, None, "x", [], True):
            log = [("answer", 0, "tty", 5, count), ("arrive", 0, 2, count)]
            told = alone(machine, 0, log)
            self.assertEqual((told.answers()["tty"], told.arrivals()), ([(3, 5)], [(3, 2)]), count)

    def test_other_choices_are_passed_over(self):
        machine = machine_of()
        others = [("bring", 0, 1), ("out", 0, 1), ("share",), ("drop", 0), ("special", "table", 3), ("patch", 0, 1)]
        others += [("unpatch", 0, 1), ("close", 0), ("opened", 0, machine)]
        self.assertTrue(all(is_choice(choice) for choice in others[:-1]))
        self.assertEqual(alone(machine, 0, others), machine)
        mixed = [choice for other in others for choice in (other, ("step", 0))]
        self.assertEqual(alone(machine, 0, mixed), run(machine, len(others))[0])

    def test_anything_else_is_passed_over(self):
        machine = machine_of()
        odd = list(ODD) + [("step",), ("step", 0, 0), ["step", 0], ("step", "0"), ("step", None), ("steps", 0), "step"]
        odd += [("answer", 0, "tty"), ("answer", 0, 3, 5), ("answer", 0, "nope", 5), ("answer", 0, "tty", 16)]
        odd += [("answer", 0, "tty", True), ("answer", 0, "tty", 5, 0, 0), ("arrive", 0), ("arrive", 0, 16)]
        odd += [("arrive", 0, None), ("arrive", 0, True), ("arrive", 0, 2, 0, 0), (None, 0), ([], 0), ("answer", 0, [], 5)]
        odd += [("step", False), ("answer", False, "tty", 5), ("arrive", False, 5, 0), ("answer", 0, "tty", -1), ("step", -1)]
        for thing in odd:
            self.assertEqual(alone(machine, 0, [thing]), machine, thing)
        self.assertEqual(alone(machine, 0, odd + [("step", 0)] + odd), step(machine)[0])

    def test_the_machine_and_the_list_stay(self):
        machine = machine_of()
        same = with_changes(machine)
        choices = [("step", 0), ("answer", 0, "tty", 4), ("step", 0), ("arrive", 0, 3)]
        kept = list(choices)
        alone(machine, 0, choices)
        alone_told(machine, 0, choices)
        self.assertEqual((machine, choices), (same, kept))

    def test_lists_are_new(self):
        machine = machine_of()
        assert_new(self, lambda: alone_told(machine, 0, [("step", 0)] * 2))
        assert_new(self, lambda: alone_told(machine, 0, []))
        spoil(alone(machine, 0, [("step", 0)]).frames())
        self.assertEqual(alone(machine, 0, [("step", 0)]), step(machine)[0])


if __name__ == "__main__":
    unittest.main()
