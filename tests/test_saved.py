"""Saved forms, packed forms and changes: S9.1 to S9.4, and the interface of worldsalone/saved.py."""

import random
import unittest

from drawnhosts import RIGHT, drawn_machine
from hosts import MEANING, host_of, machine_of, whole
from samples import ODD, made, one_book, one_meaning, some_frames, some_specials, with_changes
from worldsalone.books import Book
from worldsalone.errors import BadData, UnknownWorld
from worldsalone.machines import SPECIALS, Machine
from worldsalone.meanings import Meaning
from worldsalone.saved import applied, difference, joined, packed, restored, restored_machine, saved, saved_machine, unpacked
from worldsalone.steps import step

SMALL = one_meaning(one_book(()))
# Two frames that are alike, and all other parts told.
FULL = made(
    SMALL, frames=[[1, 6, 3, 4], [8, 9, 0, 8], [1, 6, 3, 4], [0, 0, 0, 0]], registers=[4, 5, 6], pc=7,
    specials=some_specials(mode=1, table=2, handler=3, enabled=4, timer=5, cause=6, back=7, was=8, fault=9), is_out=True,
    lines=(2, 5, 9), outs={"tty": [1, 2], "net": []}, answers={"tty": [], "net": [(3, 4), (3, 1), (8, 15)]},
    arrivals=[(0, 1), (12, 0)], count=11)
FORM = (
    ((1, 6, 3, 4), (8, 9, 0, 8), (0, 0, 0, 0)), (0, 1, 0, 2), (4, 5, 6), 7, (1, 2, 3, 4, 5, 6, 7, 8, 9), 1, (2, 5, 9),
    ((1, 2), ()), ((), ((3, 4), (3, 1), (8, 15))), ((0, 1), (12, 0)), 11)
PACKED = (
    4, 3, 1, 6, 3, 4, 8, 9, 0, 8, 0, 0, 0, 0, 0, 1, 0, 2, 4, 5, 6, 7, 1, 2, 3, 4, 5, 6, 7, 8, 9, 1, 3, 2, 5, 9,
    2, 1, 2, 0, 0, 3, 3, 4, 3, 1, 8, 15, 2, 0, 1, 12, 0, 11)
HUGE = 10 ** 39


def with_part(thing, path, part):
    """A tuple with another part at a path."""
    if path == ():
        return part
    k = path[0]
    return thing[:k] + (with_part(thing[k], path[1:], part),) + thing[k + 1:]


def part_at(thing, path):
    """The part at a path."""
    for k in path:
        thing = thing[k]
    return thing


def leaves(thing, path=()):
    """The paths of all parts, those of tuples ahead of those of their members."""
    found = [path]
    if isinstance(thing, tuple):
        for k, part in enumerate(thing):
            found.extend(leaves(part, path + (k,)))
    return found


def drawn(seed):
    """A drawn machine of a larger meaning, some steps from its start."""
    draw = random.Random(seed)
    machine = drawn_machine(draw, RIGHT)
    frames = machine.frames()
    for _ in range(draw.randrange(4)):
        frames[draw.randrange(len(frames))] = list(draw.choice(frames))
    machine = with_changes(machine, frames=frames, lines=tuple(sorted(draw.sample(range(32), draw.randrange(4)))))
    for _ in range(draw.randrange(5)):
        machine = step(machine)[0]
    return machine


class Forms(unittest.TestCase):
    def test_each_member(self):
        self.assertEqual(saved_machine(FULL), FORM)
        self.assertEqual(restored_machine(SMALL, FORM), FULL)

    def test_frames_and_seats(self):
        for frames, told in (
            ([[1] * 4], (((1,) * 4,), (0,))),
            ([[1] * 4] * 3, (((1,) * 4,), (0, 0, 0))),
            ([[1] * 4, [2] * 4, [2] * 4, [1] * 4, [0] * 4], (((1,) * 4, (2,) * 4, (0,) * 4), (0, 1, 1, 0, 2))),
        ):
            form = saved_machine(made(SMALL, frames=frames))
            self.assertEqual(form[:2], told)
            self.assertEqual(restored_machine(SMALL, form).frames(), frames)

    def test_everything_is_a_tuple(self):
        def check(thing):
            self.assertIsInstance(thing, (tuple, int))
            self.assertNotIsInstance(thing, bool)
            for part in thing if isinstance(thing, tuple) else ():
                check(part)

        for seed in range(20):
            check(saved_machine(drawn(seed)))
        check(saved_machine(made(SMALL)))

    def test_one_form_for_each_machine_and_one_machine_for_each_form(self):
        machines = [drawn(seed) for seed in range(40)] + [drawn(seed) for seed in range(5)]
        forms = [saved_machine(machine) for machine in machines]
        for one, form in zip(machines, forms):
            self.assertEqual(restored_machine(RIGHT, form), one)
            self.assertEqual(saved_machine(restored_machine(RIGHT, form)), form)
            for other, told in zip(machines, forms):
                self.assertEqual(one == other, form == told)

    def test_machines_that_differ_in_one_part(self):
        others = [
            with_changes(FULL, frames=FULL.frames()[:3]), with_changes(FULL, registers=[4, 5, 7]), with_changes(FULL, pc=8),
            with_changes(FULL, is_out=False), with_changes(FULL, lines=(2, 5)), with_changes(FULL, outs={"tty": [1], "net": [2]}),
            with_changes(FULL, answers={"tty": [], "net": [(3, 4)]}), with_changes(FULL, arrivals=[]), with_changes(FULL, count=12)]
        others += [with_changes(FULL, specials={name: 0}) for name in SPECIALS]
        for other in others:
            self.assertNotEqual(saved_machine(other), FORM)
            self.assertEqual(restored_machine(SMALL, saved_machine(other)), other)

    def test_a_book_without_ports(self):
        book = Book(1, [], [], [], [])
        meaning = Meaning(book, 2, 2, {}, {}, {})
        machine = Machine(meaning, [[0, 1]], [3], 0, some_specials(), False, (), {}, {}, [], 0)
        form = (((0, 1),), (0,), (3,), 0, (0,) * 9, 0, (), (), (), (), 0)
        self.assertEqual(saved_machine(machine), form)
        self.assertEqual(restored_machine(meaning, form), machine)


class WrongForms(unittest.TestCase):
    def refused(self, path, data):
        with self.assertRaises(BadData, msg=data) as caught:
            restored_machine(SMALL, data)
        self.assertEqual(caught.exception.path, path, data)

    def change(self, path, part, told=None):
        """The form with another part is refused at the path of this part, or at the told one."""
        self.refused(path if told is None else told, with_part(FORM, path, part))

    def test_things_of_all_kinds_at_each_part(self):
        paths = leaves(FORM)
        self.assertGreater(len(paths), 60)
        for path in paths:
            for thing in ODD + (-HUGE, "0", [1, 2], {"a": 1}, FULL):
                # A tuple where one stands is wrong at another part, if it is wrong at all.
                if not isinstance(thing, tuple) or not isinstance(part_at(FORM, path), tuple):
                    self.change(path, thing)

    def test_lists_are_no_tuples(self):
        for path in leaves(FORM):
            part = part_at(FORM, path)
            if isinstance(part, tuple):
                self.change(path, list(part))

    def test_numbers_of_members(self):
        for path in ((), (0, 0), (0, 2), (2,), (4,), (7,), (8,), (8, 1, 0), (9, 1)):
            part = part_at(FORM, path)
            for told in (part[:-1], part + part[-1:], ()):
                self.change(path, told)

    def test_words_and_counts(self):
        for path in ((0, 0, 3), (0, 2, 0), (2, 2), (3,), (4, 8), (6, 0), (7, 0, 1), (8, 1, 0, 1), (9, 1, 1)):
            for thing in (-1, 16, HUGE, True, False, None, "1", (1,)):
                self.change(path, thing)
        for path in ((8, 1, 0, 0), (9, 0, 0), (10,)):
            for thing in (-1, True, False, None, "1", (1,)):
                self.change(path, thing)
        for thing in (-1, 2, True, False, None, "1", HUGE):
            self.change((5,), thing)
        self.assertEqual(restored_machine(SMALL, with_part(FORM, (10,), HUGE)).count(), HUGE)
        self.assertEqual(restored_machine(SMALL, with_part(FORM, (5,), 0)).is_out(), False)

    def test_frames_that_are_alike(self):
        self.change((0, 1), (1, 6, 3, 4))
        self.change((0, 2), (8, 9, 0, 8))
        self.change((0, 0), (0, 0, 0, 0), (0, 2))
        # True is no word, so this frame is not alike.
        self.change((0, 1), (True, 6, 3, 4), (0, 1, 0))

    def test_seats(self):
        for seats, told in (((), (1,)), ((1, 0, 1, 2), (1, 0)), ((0, 2, 1, 0), (1, 1)), ((0, 1, 0, 3), (1, 3)), ((0, 1, 2, 3), (1, 3)),
                            ((0, 1, -1, 2), (1, 2)), ((0, True, 0, 2), (1, 1)), ((False, 1, 0, 2), (1, 0)), ((0, 1, None, 2), (1, 2)),
                            ((HUGE, 0), (1, 0)), ((0, 0, 2), (1, 2)), ("0", (1,)), ([0, 1, 0, 2], (1,))):
            self.change((1,), seats, told)
        self.assertEqual(restored_machine(SMALL, with_part(FORM, (1,), (0, 1, 2))).frames(), [[1, 6, 3, 4], [8, 9, 0, 8], [0] * 4])

    def test_frames_may_have_no_members(self):
        self.refused((1, 0), with_part(FORM, (0,), ()))
        self.refused((1,), with_part(with_part(FORM, (0,), ()), (1,), ()))

    def test_frames_that_no_seat_names_are_wrong_behind_all_members(self):
        self.change((1,), (0, 1, 0, 1), (0, 2))
        self.change((1,), (0,), (0, 1))
        self.change((1,), (0, 0, 0, 0, 0), (0, 1))
        self.refused((10,), with_part(with_part(FORM, (1,), (0,)), (10,), -1))
        self.refused((3,), with_part(with_part(FORM, (1,), (0, 1)), (3,), 16))

    def test_lines(self):
        for lines, told in (((2, 2), (6, 1)), ((5, 2, 9), (6, 1)), ((2, 9, 5), (6, 2)), ((3, 16), (6, 1)), ((3, 2, 99), (6, 1)), ((16, 1), (6, 0)),
                            ((1, True), (6, 1)), ((1, None), (6, 1)), ((0, 1, 2, 1), (6, 3)), ([1, 2], (6,)), (3, (6,))):
            self.change((6,), lines, told)
        self.assertEqual(restored_machine(SMALL, with_part(FORM, (6,), ())).lines(), ())

    def test_pairs_whose_counts_descend(self):
        for at in ((8, 1), (8, 0), (9,)):
            for pairs, told in ((((3, 1), (2, 1)), (1,)), (((3, 1), (2, 99)), (1,)), (((3, 1), (3, 99)), (1, 1)), (((3, 1), (-1, 1)), (1, 0)),
                                (((3, 1), (True, 1)), (1, 0)), (((3, 1), (4, 1), (3, 1)), (2,)), (((3, 1), (2, 1, 1)), (1,)),
                                (((3, 1), (2,)), (1,)), (((3, 1), [4, 1]), (1,)), (((HUGE, 1), (HUGE - 1, 1)), (1,)), (((None, 99),), (0, 0)),
                                (((3, 1), (None, 1)), (1, 0)), (((3, 99), (2, 99)), (0, 1)), (((-1, 99),), (0, 0))):
                self.change(at, pairs, at + told)
            self.assertIsInstance(restored_machine(SMALL, with_part(FORM, at, ((3, 1), (3, 0), (HUGE, 1)))), Machine)

    def test_the_first_of_two_wrong_parts(self):
        paths = [path for path in leaves(FORM) if path]
        draw = random.Random(9)
        for _ in range(300):
            one, other = sorted(draw.sample(paths, 2))
            if other[:len(one)] == one:
                data = with_part(FORM, one, None)
            else:
                data = with_part(with_part(FORM, other, None), one, "x")
            self.refused(one, data)

    def test_forms_of_other_meanings(self):
        self.refused((), ())
        with self.assertRaises(BadData) as caught:
            restored_machine(MEANING, FORM)
        self.assertEqual(caught.exception.path, (0, 0))

    def test_drawn_wrong_parts(self):
        for seed in range(60):
            draw = random.Random(seed)
            form = saved_machine(drawn(seed))
            path = draw.choice(leaves(form))
            with self.assertRaises(BadData) as caught:
                restored_machine(RIGHT, with_part(form, path, draw.choice((None, True, False, [], "x", -1))))
            self.assertEqual(caught.exception.path, path)


class PackedForms(unittest.TestCase):
    def refused(self, place, numbers, meaning=SMALL):
        for told in (tuple(numbers), list(numbers)):
            with self.assertRaises(BadData, msg=numbers) as caught:
                unpacked(meaning, told)
            self.assertEqual(caught.exception.path, (place,), numbers)

    def change(self, place, thing, told=None):
        """The packed form with another member is refused there, or at the told place."""
        self.refused(place if told is None else told, PACKED[:place] + (thing,) + PACKED[place + 1:])

    def test_each_member(self):
        self.assertEqual(packed(FORM), PACKED)
        self.assertEqual(unpacked(SMALL, PACKED), FORM)
        self.assertEqual(unpacked(SMALL, list(PACKED)), FORM)
        self.assertIsInstance(packed(FORM), tuple)

    def test_drawn_forms(self):
        for seed in range(60):
            form = saved_machine(drawn(seed))
            numbers = packed(form)
            self.assertTrue(all(type(number) is int for number in numbers))
            self.assertEqual(unpacked(RIGHT, numbers), form)

    def test_too_short_and_too_long(self):
        for many in range(len(PACKED)):
            self.refused(many, PACKED[:many])
        for more in (0, None, True, -1, "x"):
            self.refused(len(PACKED), PACKED + (more,))
            self.refused(len(PACKED), PACKED + (more, more))
        for seed in range(20):
            numbers = packed(saved_machine(drawn(seed)))
            many = random.Random(seed).randrange(len(numbers))
            self.refused(many, numbers[:many], RIGHT)

    def test_members_of_all_kinds(self):
        for place in range(len(PACKED)):
            for thing in ODD + ("0", -HUGE, (PACKED[place],), [PACKED[place]], FULL):
                self.change(place, thing)

    def test_words(self):
        words = [*range(2, 14), *range(18, 31), 33, 34, 35, 37, 38, 43, 45, 47, 50, 52]
        for place in words:
            for thing in (16, 99, HUGE, -1, True):
                self.change(place, thing)

    def test_the_numbers_of_seats_and_frames(self):
        self.change(0, 0)
        self.change(1, 0)
        self.change(1, 5)
        self.change(1, HUGE)
        # Fewer seats than frames.
        self.change(0, 2, 1)
        self.refused(3, (HUGE, HUGE, 1))
        self.refused(2, (HUGE, 1))
        self.refused(7, (HUGE, 1, 1, 6, 3, 4, 0))
        self.refused(1, (1,))
        self.refused(0, ())

    def test_a_frame_that_is_alike_is_wrong_at_its_last_word(self):
        numbers = list(PACKED)
        numbers[6:10] = [1, 6, 3, 4]
        self.refused(9, numbers)
        numbers = list(PACKED)
        numbers[10:14] = [8, 9, 0, 8]
        self.refused(13, numbers)
        self.refused(9, numbers[:6] + [1, 6, 3, 4])
        self.refused(9, numbers[:6] + [1, 6, 3])

    def test_seats(self):
        for place, seat, told in ((14, 1, 14), (14, -1, 14), (15, 2, 15), (15, HUGE, 15), (16, 2, None), (16, 3, 16), (17, 3, 17), (15, 0, 17),
                                  (17, 1, 17), (17, 0, 17)):
            if told is not None:
                self.change(place, seat, told)
        # A seat too great is wrong at its own place, a frame without a seat at the last one.
        numbers = list(PACKED)
        numbers[14:18] = [0, 0, 0, 0]
        self.refused(17, numbers)
        numbers[14:18] = [0, 1, 2, 0]
        self.assertEqual(unpacked(SMALL, numbers)[1], (0, 1, 2, 0))

    def test_the_flag(self):
        for thing in (2, -1, True, HUGE):
            self.change(31, thing)

    def test_lines(self):
        for place, thing in ((34, 2), (34, 1), (35, 5), (35, 4)):
            self.change(place, thing)
        self.refused(36, PACKED[:32] + (HUGE, 2, 5, 9))
        self.refused(36, PACKED[:32] + (HUGE, 2, 5, 9, 9))

    def test_pairs(self):
        # A count that is too small is wrong at its place, whatever the word behind it is.
        self.change(44, 2)
        self.change(46, 2)
        self.change(51, -1)
        numbers = list(PACKED)
        numbers[44:46] = [2, 99]
        self.refused(44, numbers)
        numbers = list(PACKED)
        numbers[49] = 13
        self.refused(51, numbers)
        self.assertEqual(unpacked(SMALL, PACKED[:51] + (HUGE,) + PACKED[52:])[9], ((0, 1), (HUGE, 0)))

    def test_numbers_of_members(self):
        for place in (32, 36, 39, 40, 41, 48):
            for thing in (-1, True, None, "1"):
                self.change(place, thing)
        self.assertEqual(unpacked(SMALL, PACKED[:32] + (0,) + PACKED[36:])[6], ())
        self.refused(len(PACKED), PACKED[:36] + (HUGE,) + (1,) * (len(PACKED) - 37))

    def test_the_count(self):
        self.assertEqual(unpacked(SMALL, PACKED[:-1] + (HUGE,))[10], HUGE)
        self.change(len(PACKED) - 1, -1)


class Changes(unittest.TestCase):
    LATE = with_part(with_part(FORM, (0,), ((1, 6, 3, 4), (0, 0, 0, 0), (2, 2, 2, 2))), (1,), (0, 1, 2, 0))

    def refused(self, path, changes, early=FORM):
        with self.assertRaises(BadData, msg=changes) as caught:
            applied(SMALL, early, changes)
        self.assertEqual(caught.exception.path, path, changes)

    def test_the_frames_that_differ(self):
        late = self.LATE
        changes = (((1, (0, 0, 0, 0)), (2, (2, 2, 2, 2)), (3, (1, 6, 3, 4))), FORM[2:])
        self.assertEqual(difference(FORM, late), changes)
        self.assertEqual(applied(SMALL, FORM, changes), late)
        self.assertEqual(difference(FORM, FORM), ((), FORM[2:]))
        self.assertEqual(applied(SMALL, FORM, ((), FORM[2:])), FORM)
        self.assertEqual(difference(late, FORM)[0], ((1, (8, 9, 0, 8)), (2, (1, 6, 3, 4)), (3, (0, 0, 0, 0))))

    def test_the_rest_is_that_of_the_later_form(self):
        late = with_part(with_part(FORM, (3,), 9), (10,), 20)
        self.assertEqual(difference(FORM, late), ((), late[2:]))
        self.assertEqual(applied(SMALL, FORM, difference(FORM, late)), late)

    def test_unlike_numbers_of_frames(self):
        shorter = saved_machine(with_changes(FULL, frames=FULL.frames()[:3]))
        for early, late in ((FORM, shorter), (shorter, FORM)):
            with self.assertRaises(BadData) as caught:
                difference(early, late)
            self.assertEqual(caught.exception.path, (1,))
        alike = saved_machine(with_changes(FULL, frames=[[0] * 4] * 4))
        self.assertEqual(applied(SMALL, FORM, difference(FORM, alike)), alike)

    def test_words_that_the_frame_has_already_are_allowed(self):
        self.assertEqual(applied(SMALL, FORM, (((0, (1, 6, 3, 4)), (3, (0, 0, 0, 0))), FORM[2:])), FORM)

    def test_the_form_that_results_is_one(self):
        made_alike = applied(SMALL, FORM, (((0, (8, 9, 0, 8)), (2, (8, 9, 0, 8))), FORM[2:]))
        self.assertEqual(made_alike[:2], (((8, 9, 0, 8), (0, 0, 0, 0)), (0, 0, 0, 1)))
        self.assertEqual(saved_machine(restored_machine(SMALL, made_alike)), made_alike)

    def test_wrong_changes(self):
        rest = FORM[2:]
        good = (1, (0, 0, 0, 0))
        for thing in ODD + ([(), rest], ((),), ((), rest, ()), 7, FORM):
            self.refused((), thing)
        for thing in [thing for thing in ODD if not isinstance(thing, tuple)] + [7, FULL, [good]]:
            self.refused((0,), (thing, rest))
        for thing in ODD + ((1,), [1, (0,) * 4], good + (1,), 7):
            self.refused((0, 0), ((thing,), rest))
            self.refused((0, 1), ((good, thing), rest))
        for number in (-1, 4, HUGE, True, None, "1", (1,)):
            self.refused((0, 0, 0), (((number, (0, 0, 0, 0)),), rest))
            self.refused((0, 1, 0), ((good, (number, (0, 0, 0, 0))), rest))
        for number in (0, 1):
            self.refused((0, 1), ((good, (number, None)), rest))
            self.refused((0, 2), ((good, (3, (0,) * 4), (number, (0,) * 4)), rest))
        for words in (None, [0, 0, 0, 0], (0, 0, 0), (0,) * 5, (), "0000", 7):
            self.refused((0, 0, 1), (((1, words),), rest))
        for k, word in enumerate((16, -1, True, None)):
            self.refused((0, 0, 1, k), (((1, (0,) * k + (word,) + (0,) * (3 - k)),), rest))

    def test_wrong_rests(self):
        for thing in ODD + (FORM[2:-1], FORM[1:], list(FORM[2:]), 7):
            self.refused((1,), ((), thing))
            self.refused((1,), (((1, (0,) * 4),), thing))
        for path in leaves(FORM):
            if len(path) > 0 and path[0] >= 2:
                told = (1, path[0] - 2) + path[1:]
                self.refused(told, ((), with_part(FORM, path, None)[2:]))
        self.refused((1, 4, 1), ((), with_part(FORM, (6,), (3, 2))[2:]))
        self.refused((1, 7, 1), ((), with_part(FORM, (9,), ((3, 2), (2, 99)))[2:]))

    def test_the_first_of_two_wrong_parts(self):
        self.refused((0, 0, 0), (((9, None),), None))
        self.refused((0, 0, 1), (((1, None), None), None))
        self.refused((1,), ((), None))
        self.refused((1, 0, 0), ((), ((None, 5, 6), None) + FORM[4:]))

    def test_seats_of_the_early_form_count(self):
        early = saved_machine(with_changes(FULL, frames=some_frames()))
        self.refused((0, 0, 0), (((3, (0,) * 4),), FORM[2:]), early)
        self.assertEqual(applied(SMALL, early, (((2, (0,) * 4),), FORM[2:]))[1], (0, 1, 2))

    def test_joined(self):
        one = (((0, (1, 1, 1, 1)), (2, (2, 2, 2, 2))), FORM[2:])
        other = (((1, (3, 3, 3, 3)), (2, (4, 4, 4, 4))), self.LATE[2:])
        told = (((0, (1, 1, 1, 1)), (1, (3, 3, 3, 3)), (2, (4, 4, 4, 4))), self.LATE[2:])
        self.assertEqual(joined(one, other), told)
        self.assertEqual(joined(((), FORM[2:]), other), other)
        self.assertEqual(joined(one, ((), self.LATE[2:])), (one[0], self.LATE[2:]))

    def test_changes_applied_one_behind_another_and_joined(self):
        for seed in range(30):
            draw = random.Random(seed)
            machines = [drawn(seed)]
            for _ in range(3):
                machine = machines[-1]
                frames = machine.frames()
                for _ in range(draw.randrange(3)):
                    frames[draw.randrange(7)] = draw.choice((list(draw.choice(frames)), [draw.randrange(32)] * 8))
                machine = with_changes(machine, frames=frames, pc=draw.randrange(32))
                for _ in range(draw.randrange(4)):
                    machine = step(machine)[0]
                machines.append(machine)
            forms = [saved_machine(machine) for machine in machines]
            changes = [difference(one, other) for one, other in zip(forms, forms[1:])]
            form, together = forms[0], ((), forms[0][2:])
            for change, due in zip(changes, forms[1:]):
                form, together = applied(RIGHT, form, change), joined(together, change)
                self.assertEqual(form, due)
                self.assertEqual(applied(RIGHT, forms[0], together), due)
            self.assertEqual(restored_machine(RIGHT, form), machines[-1])
            three = joined(changes[0], joined(changes[1], changes[2]))
            self.assertEqual(three, joined(joined(changes[0], changes[1]), changes[2]))

    def test_changes_are_tuples(self):
        for thing in difference(FORM, self.LATE) + joined(difference(FORM, self.LATE), difference(FORM, FORM)):
            self.assertIsInstance(thing, tuple)


class Worlds(unittest.TestCase):
    def test_saved_and_restored(self):
        host = host_of(machine_of("inc", "st"), machine_of("nop", frames=([7] * 8, [7] * 8)))
        host.do(("step", 0))
        host.do(("patch", 0, 0))
        kept = whole(host)
        for w in (0, 1):
            form = saved(host, w)
            self.assertEqual(form, saved_machine(host.machine(w)))
            self.assertEqual(whole(host), kept)
        number = restored(host, saved(host, 0))
        self.assertEqual((number, host.machine(2)), (2, host.machine(0)))
        self.assertEqual((host.counts(2), host.copies(2).copied()), ((0, 0, 0), []))
        self.assertEqual(host.log()[-1], ("opened", 2, host.machine(0)))
        other = host_of()
        self.assertEqual(restored(other, saved(host, 1)), 0)
        self.assertEqual(other.machine(0), host.machine(1))

    def test_unknown_worlds(self):
        host = host_of(machine_of("inc"), machine_of("inc"))
        host.do(("close", 1))
        for w in ODD + (1, 2, "0"):
            with self.assertRaises(UnknownWorld, msg=w) as caught:
                saved(host, w)
            self.assertIs(caught.exception.number, w)

    def test_wrong_data(self):
        host = host_of(machine_of("inc"))
        kept = whole(host)
        form = saved(host, 0)
        for data, path in ((None, ()), (form[:-1], ()), (with_part(form, (3,), 32), (3,)), (FORM, (0, 0)), (with_part(form, (1, 0), 1), (1, 0))):
            with self.assertRaises(BadData) as caught:
                restored(host, data)
            self.assertEqual(caught.exception.path, path)
        self.assertEqual(whole(host), kept)


if __name__ == "__main__":
    unittest.main()
