"""Mappings: S3.3 to S3.6, and the interface of worldsalone/mappings.py."""

import random
import unittest

from samples import ODD, assert_new, made, one_book, one_meaning, some_frames, some_specials, spoil
from worldsalone.machines import fresh, poked
from worldsalone.mappings import Mapping, first_untrue, limit_of, wanted
from worldsalone.meanings import Meaning
from worldsalone.tables import frame_of, rights_at

MEANING = one_meaning(one_book(()))


def mapping_of(entries):
    """The mapping with these entries."""
    mapping = Mapping()
    for page, (box_frame, rights, cell) in entries.items():
        for right in rights:
            mapping.widen(page, box_frame, right, cell)
    return mapping


def entries_of(mapping):
    """The dict from the pages of a mapping to their entries."""
    return {page: mapping.entry(page) for page in mapping.as_dict()}


FOUR = {3: (7, "rw", (0, 3)), 0: (5, "x", (0, 0)), 2: (7, "rx", (0, 2)), 1: (5, "rwx", (1, 0))}


class Widening(unittest.TestCase):
    def test_a_page_without_an_entry(self):
        mapping = Mapping()
        self.assertEqual((len(mapping), mapping.entry(2), mapping.as_dict()), (0, None, {}))
        self.assertIsNone(mapping.widen(2, 7, "w", (0, 2)))
        self.assertEqual((len(mapping), mapping.entry(2), mapping.as_dict()), (1, (7, "w", (0, 2)), {2: (7, "w")}))

    def test_rights_come_in_order_and_once(self):
        for order in ("rwx", "rxw", "wrx", "wxr", "xrw", "xwr", "xxrrww", "xwxrwr"):
            mapping = Mapping()
            for right in order:
                self.assertIsNone(mapping.widen(1, 4, right, (0, 1)))
            self.assertEqual(mapping.entry(1), (4, "rwx", (0, 1)), order)
        mapping = mapping_of({1: (4, "xr", (0, 1))})
        self.assertEqual(mapping.entry(1)[1], "rx")
        mapping.widen(1, 4, "r", (0, 1))
        self.assertEqual(mapping.entry(1)[1], "rx")

    def test_another_box_frame_makes_the_entry_anew(self):
        mapping = mapping_of({1: (4, "rx", (0, 1)), 2: (4, "r", (0, 2))})
        mapping.widen(1, 5, "w", (0, 1))
        self.assertEqual(entries_of(mapping), {1: (5, "w", (0, 1)), 2: (4, "r", (0, 2))})

    def test_another_cell_makes_the_entry_anew(self):
        for cell in ((0, 2), (1, 1), (1, 0)):
            mapping = mapping_of({1: (4, "rx", (0, 1))})
            mapping.widen(1, 4, "w", cell)
            self.assertEqual(mapping.entry(1), (4, "w", cell))

    def test_a_cell_may_be_changed_behind_the_call(self):
        cell = [0, 1]
        mapping = Mapping()
        mapping.widen(1, 4, "r", cell)
        cell[0] = 9
        self.assertEqual(mapping.entry(1), (4, "r", (0, 1)))
        mapping.widen(1, 4, "w", (0, 1))
        self.assertEqual(mapping.entry(1), (4, "rw", (0, 1)))
        self.assertEqual(cell, [9, 1])

    def test_entry_of_what_is_no_page(self):
        mapping = mapping_of({0: (4, "r", (0, 0)), 1: (4, "r", (0, 1))})
        for thing in ODD + (Mapping(), 5, 10 ** 30, (0,), "0", b"0", [0], {0: 0}):
            self.assertIsNone(mapping.entry(thing), thing)


class Falling(unittest.TestCase):
    def check(self, call, pages):
        mapping = mapping_of(FOUR)
        told = call(mapping)
        self.assertEqual(told, pages)
        self.assertEqual(entries_of(mapping), {page: FOUR[page] for page in sorted(FOUR) if page not in pages})
        self.assertEqual(len(mapping), 4 - len(pages))
        told.append(99)
        self.assertEqual(call(mapping), [])

    def test_by_cell(self):
        self.check(lambda mapping: mapping.fall_by_cell((0, 3)), [3])
        self.check(lambda mapping: mapping.fall_by_cell((1, 0)), [1])
        self.check(lambda mapping: mapping.fall_by_cell((0, 1)), [])
        self.check(lambda mapping: mapping.fall_by_cell((3, 0)), [])
        self.check(lambda mapping: mapping.fall_by_cell([0, 0]), [0])

    def test_by_cell_several(self):
        mapping = mapping_of({3: (7, "r", (0, 0)), 1: (5, "r", (0, 0)), 2: (5, "r", (0, 2))})
        self.assertEqual(mapping.fall_by_cell((0, 0)), [1, 3])
        self.assertEqual(mapping.as_dict(), {2: (5, "r")})

    def test_by_box_frame(self):
        self.check(lambda mapping: mapping.fall_by_box_frame(7), [2, 3])
        self.check(lambda mapping: mapping.fall_by_box_frame(5), [0, 1])
        self.check(lambda mapping: mapping.fall_by_box_frame(0), [])

    def test_writing(self):
        self.check(lambda mapping: mapping.fall_writing(7), [3])
        self.check(lambda mapping: mapping.fall_writing(5), [1])
        self.check(lambda mapping: mapping.fall_writing(3), [])

    def test_all(self):
        self.check(lambda mapping: mapping.fall_all(), [0, 1, 2, 3])

    def test_an_entry_that_fell_is_made_anew(self):
        mapping = mapping_of(FOUR)
        mapping.fall_by_box_frame(5)
        mapping.widen(1, 5, "r", (1, 0))
        self.assertEqual(mapping.entry(1), (5, "r", (1, 0)))


class Mappings(unittest.TestCase):
    def test_the_plain_form_is_ascending(self):
        plain = mapping_of(FOUR).as_dict()
        self.assertEqual(list(plain.items()), [(0, (5, "x")), (1, (5, "rwx")), (2, (7, "rx")), (3, (7, "rw"))])

    def test_what_is_returned_is_new(self):
        mapping = mapping_of(FOUR)
        assert_new(self, mapping.as_dict)
        spoil(mapping.as_dict())
        self.assertEqual(mapping, mapping_of(FOUR))
        for call in (Mapping().fall_all, lambda: Mapping().fall_by_cell((0, 0)), lambda: Mapping().fall_writing(0)):
            assert_new(self, call)
        mapping = mapping_of(FOUR)
        fallen = mapping.fall_all()
        spoil(fallen)
        self.assertEqual(len(mapping), 0)

    def test_twins_go_their_own_ways(self):
        mapping = mapping_of(FOUR)
        twin = mapping.twin()
        self.assertIsInstance(twin, Mapping)
        self.assertEqual((entries_of(twin), twin == mapping), (FOUR, True))
        twin.widen(2, 7, "w", (0, 2))
        self.assertEqual((mapping.entry(2), twin.entry(2)), ((7, "rx", (0, 2)), (7, "rwx", (0, 2))))
        mapping.fall_all()
        self.assertEqual((len(mapping), len(twin)), (0, 4))
        self.assertEqual(len(mapping.twin()), 0)

    def test_equality(self):
        self.assertTrue(mapping_of(FOUR) == mapping_of(dict(sorted(FOUR.items()))))
        self.assertTrue(Mapping() == Mapping())
        self.assertFalse(mapping_of(FOUR) != mapping_of(FOUR))
        for page, entry in ((0, (5, "rx", (0, 0))), (0, (6, "x", (0, 0))), (0, (5, "x", (0, 1))), (4, (5, "x", (0, 0)))):
            self.assertFalse(mapping_of(FOUR) == mapping_of({**FOUR, page: entry}), (page, entry))
        self.assertFalse(mapping_of(FOUR) == mapping_of({0: FOUR[0]}))
        self.assertFalse(mapping_of({0: FOUR[0]}) == mapping_of(FOUR))

    def test_a_mapping_is_not_equal_to_anything_else(self):
        for thing in ODD + (mapping_of(FOUR).as_dict(), entries_of(mapping_of(FOUR)), MEANING):
            self.assertFalse(mapping_of(FOUR) == thing, thing)
            self.assertTrue(mapping_of(FOUR) != thing, thing)
        self.assertFalse(Mapping() == {})


class Limits(unittest.TestCase):
    def test_each_way_alone(self):
        self.assertEqual(limit_of(0, [], [], 1), "rwx")
        self.assertEqual(limit_of(1, [], [], 1), "rx")
        self.assertEqual(limit_of(0, [1], [], 1), "x")
        self.assertEqual(limit_of(0, [], [1], 1), "rw")

    def test_several_at_once(self):
        self.assertEqual(limit_of(1, [], [1], 1), "r")
        self.assertEqual(limit_of(1, [1], [], 1), "x")
        self.assertEqual(limit_of(0, [1], [1], 1), "")
        self.assertEqual(limit_of(1, [1], [1], 1), "")

    def test_other_frames_do_not_count(self):
        self.assertEqual(limit_of(0, [0, 2, 99], [0, 3, 99], 1), "rwx")
        self.assertEqual(limit_of(15, (0, 1), (2, 3), 1), "x")
        self.assertEqual(limit_of(15, (0, 1), (2, 3), 2), "rw")
        self.assertEqual(limit_of(15, (0, 1), (2, 3), 15), "rx")


# The pages of the machines of samples: 0 is frame 1 (rwx), 1 is frame 2 (rw), 2 is frame 2 (system: rw), 3 none.
class Wanted(unittest.TestCase):
    def check(self, machine, address, right, told, copied=(), closed=()):
        before = machine.frames()
        self.assertEqual(wanted(machine, list(copied), list(closed), address, right), told)
        self.assertEqual(wanted(machine, tuple(copied), tuple(closed), address, right), told)
        self.assertEqual(machine.frames(), before)

    def test_refused_by_the_world(self):
        user = made(MEANING)
        system = made(MEANING, specials=some_specials(mode=1))
        self.check(user, 8, "r", ("refused",))
        self.check(system, 8, "r", ("wanted", 2, (0, 2)))
        self.check(system, 8, "x", ("refused",))
        self.check(user, 12, "r", ("refused",))
        self.check(system, 15, "w", ("refused",))
        self.check(user, 4, "x", ("refused",))

    def test_refused_where_nothing_is(self):
        self.check(made(MEANING, specials=some_specials(table=3)), 0, "x", ("refused",))
        self.check(made(MEANING, specials=some_specials(table=15)), 0, "r", ("refused",))
        self.check(poked(made(MEANING), 0, 0, 9), 0, "r", ("refused",))
        self.check(poked(made(MEANING), 0, 0, 7), 0, "r", ("refused",))

    def test_refused_comes_before_barred(self):
        self.check(made(MEANING), 8, "r", ("refused",), [2], [2])
        self.check(made(MEANING), 12, "x", ("refused",), [9], [9])

    def test_wanted_for_each_right(self):
        for right in "rwx":
            self.check(made(MEANING), 3, right, ("wanted", 1, (0, 0)))
            self.check(made(MEANING), 3, right, ("wanted", 1, (0, 0)), [0, 2, 77], [2, 0, 77])
        for right in "rw":
            self.check(made(MEANING), 5, right, ("wanted", 2, (0, 1)))

    def test_the_cell_is_that_of_the_present_table(self):
        machine = made(MEANING, frames=some_frames() + [[6, 1, 0, 0]], specials=some_specials(table=3))
        self.check(machine, 7, "x", ("wanted", 1, (3, 1)))
        self.check(machine, 0, "w", ("wanted", 2, (3, 0)))

    def test_barred_by_a_copy(self):
        self.check(made(MEANING), 0, "r", ("barred", 1), [1])
        self.check(made(MEANING), 0, "w", ("barred", 1), [1])
        self.check(made(MEANING), 0, "x", ("wanted", 1, (0, 0)), [1])

    def test_barred_by_the_present_table(self):
        machine = made(MEANING, specials=some_specials(table=1), frames=[[0] * 4, [1, 2, 3, 6], [0] * 4])
        self.check(machine, 1, "w", ("barred", 1))
        self.check(machine, 1, "r", ("wanted", 1, (1, 0)))
        self.check(machine, 1, "x", ("wanted", 1, (1, 0)))
        self.check(machine, 1, "x", ("barred", 1), [], [1])
        self.check(machine, 1, "r", ("wanted", 1, (1, 0)), [], [1])

    def test_barred_by_a_closing(self):
        self.check(made(MEANING), 0, "x", ("barred", 1), [], [1])
        self.check(made(MEANING), 0, "r", ("wanted", 1, (0, 0)), [], [1])
        self.check(made(MEANING), 0, "w", ("wanted", 1, (0, 0)), [], [1])


class FirstUntrue(unittest.TestCase):
    HOLDERS = {1: (5, True), 2: (7, True), 0: (3, True)}
    TRUE = {0: (5, "rwx", (0, 0)), 1: (7, "rw", (0, 1))}

    def check(self, told, entries=None, machine=None, holders=None, copied=(), closed=()):
        mapping = mapping_of(self.TRUE if entries is None else entries)
        machine = made(MEANING) if machine is None else machine
        holders = self.HOLDERS if holders is None else holders
        kept = dict(holders)
        self.assertEqual(first_untrue(mapping, machine, holders, list(copied), list(closed)), told)
        self.assertEqual(first_untrue(mapping, machine, holders, tuple(copied), tuple(closed)), told)
        self.assertEqual((mapping, holders), (mapping_of(self.TRUE if entries is None else entries), kept))

    def test_true(self):
        self.check(None)
        self.check(None, {})
        self.check(None, copied=[0, 8], closed=[0, 2, 9])
        self.check(None, {2: (7, "rw", (0, 2)), 1: (7, "rw", (0, 1))}, made(MEANING, specials=some_specials(mode=2)))

    def test_the_cell(self):
        self.check(0, {**self.TRUE, 0: (5, "r", (0, 1))})
        self.check(1, {**self.TRUE, 1: (7, "r", (1, 1))})
        self.check(0, machine=made(MEANING, frames=some_frames() + [[1, 6, 3, 4]], specials=some_specials(table=3)))
        self.check(0, machine=made(MEANING, specials=some_specials(table=9)))

    def test_a_page_without_a_frame(self):
        self.check(3, {**self.TRUE, 3: (7, "r", (0, 3))})
        self.check(1, machine=poked(made(MEANING), 0, 1, 0))
        self.check(3, {3: (7, "r", (0, 3))}, holders={**self.HOLDERS, 9: (7, True)})

    def test_a_page_that_the_meaning_does_not_have(self):
        few = Meaning(one_book(()), 4, 2, {}, {1: (1, "all", "rwx")}, {})
        machine = fresh(few, [[1, 1, 1, 1], [0] * 4], [0, 0, 0], 0, some_specials())
        self.check(None, {1: (5, "r", (0, 1))}, machine)
        self.check(2, {1: (5, "r", (0, 1)), 2: (5, "r", (0, 2))}, machine)

    def test_rights_that_the_world_does_not_allow(self):
        self.check(1, {**self.TRUE, 1: (7, "rx", (0, 1))})
        self.check(2, {**self.TRUE, 2: (7, "r", (0, 2))})
        self.check(2, {2: (7, "rx", (0, 2))}, made(MEANING, specials=some_specials(mode=1)))
        self.check(1, machine=poked(made(MEANING), 0, 1, 2))
        self.check(1, machine=poked(made(MEANING), 0, 1, 7))

    def test_rights_beyond_the_limit(self):
        self.check(0, copied=[1])
        self.check(None, {**self.TRUE, 0: (5, "x", (0, 0))}, copied=[1])
        self.check(0, closed=[1])
        self.check(None, {**self.TRUE, 0: (5, "rw", (0, 0))}, closed=[1])
        own = made(MEANING, frames=[[0] * 4, [1, 1, 1, 1], [0] * 4], specials=some_specials(table=1))
        self.check(2, {1: (5, "rx", (1, 1)), 2: (5, "rwx", (1, 2))}, own)
        self.check(None, {1: (5, "rx", (1, 1)), 2: (5, "x", (1, 2))}, own)

    def test_the_box_frame(self):
        self.check(0, {**self.TRUE, 0: (7, "r", (0, 0))})
        self.check(1, holders={**self.HOLDERS, 2: (8, True)})
        self.check(None, {**self.TRUE, 1: (8, "rw", (0, 1))}, holders={**self.HOLDERS, 2: (8, True)})

    def test_a_frame_that_lies_nowhere(self):
        self.check(0, holders={2: (7, True)})
        self.check(1, holders={1: (5, True)})
        self.check(0, holders={})
        self.check(None, {}, holders={})

    def test_writing_beside_other_frames(self):
        self.check(1, holders={**self.HOLDERS, 2: (7, False)})
        self.check(None, {**self.TRUE, 1: (7, "r", (0, 1))}, holders={**self.HOLDERS, 2: (7, False)})
        self.check(None, {0: (5, "rx", (0, 0))}, holders={1: (5, False)})

    def test_the_least_page_is_told(self):
        wrong = {page: (9, "r", (0, page)) for page in (3, 2, 0, 1)}
        self.check(0, wrong)
        self.check(1, {**wrong, 0: self.TRUE[0]})
        self.check(2, {**self.TRUE, 3: wrong[3], 2: wrong[2]})


class FallenIsTrueAgain(unittest.TestCase):
    """S3.5: what falls behind each change, and that a mapping is true then."""

    HOLDERS = {1: (5, True), 2: (7, True), 0: (3, True)}
    ALL = {0: (5, "rwx", (0, 0)), 1: (7, "rw", (0, 1)), 2: (7, "rw", (0, 2)), 3: (3, "r", (0, 3))}

    def setUp(self):
        entries = {1: (1, "all", "rwx"), 6: (2, "all", "rw"), 3: (2, "system", "rw"), 4: (0, "all", "r")}
        meaning = Meaning(one_book(()), 4, 4, {}, entries, {})
        self.machine = fresh(meaning, [[1, 6, 3, 4], [0] * 4, [0] * 4], [0, 0, 0], 0, some_specials(mode=3))
        self.mapping = mapping_of(self.ALL)
        self.assertIsNone(first_untrue(self.mapping, self.machine, self.HOLDERS, [], []))

    def check(self, fallen, pages, machine=None, holders=None, copied=(), closed=()):
        machine = self.machine if machine is None else machine
        holders = self.HOLDERS if holders is None else holders
        untrue = first_untrue(mapping_of(self.ALL), machine, holders, copied, closed)
        self.assertIn(untrue, pages)
        self.assertEqual(fallen, pages)
        self.assertIsNone(first_untrue(self.mapping, machine, holders, copied, closed))

    def test_a_cell_is_written(self):
        for page in range(4):
            self.mapping = mapping_of(self.ALL)
            self.check(self.mapping.fall_by_cell((0, page)), [page], machine=poked(self.machine, 0, page, 15))

    def test_a_frame_leaves_a_box_frame(self):
        self.check(self.mapping.fall_by_box_frame(7), [1, 2], holders={1: (5, True), 0: (3, True)})
        self.mapping = mapping_of(self.ALL)
        self.check(self.mapping.fall_by_box_frame(5), [0], holders={1: (9, True), 2: (7, True), 0: (3, True)})

    def test_a_frame_becomes_shared(self):
        self.check(self.mapping.fall_writing(7), [1, 2], holders={**self.HOLDERS, 2: (7, False)})
        self.mapping = mapping_of(self.ALL)
        self.assertEqual(self.mapping.fall_writing(3), [])
        self.assertIsNone(first_untrue(self.mapping, self.machine, {**self.HOLDERS, 0: (3, False)}, [], []))

    def test_a_frame_gets_a_copy(self):
        self.check(self.mapping.fall_by_box_frame(7), [1, 2], holders={1: (5, True), 0: (3, True)}, copied=[2])

    def test_a_frame_is_closed(self):
        self.check(self.mapping.fall_by_box_frame(5), [0], closed=[1])

    def test_the_table_or_the_mode_changes(self):
        parts = (self.machine.meaning(), self.machine.frames(), [0, 0, 0], 0)
        self.check(self.mapping.fall_all(), [0, 1, 2, 3], machine=fresh(*parts, some_specials(mode=3, table=1)))
        self.mapping = mapping_of(self.ALL)
        self.check(self.mapping.fall_all(), [0, 1, 2, 3], machine=fresh(*parts, some_specials()))

    def test_drawn_accesses_come_to_one_end(self):
        """S3.6 against the words of S2.2 and S3.4, for drawn tables, modes, copies and closings."""
        draw = random.Random(36)
        for _ in range(1500):
            frames = [[draw.randrange(16) for _ in range(4)] for _ in range(4)]
            specials = some_specials(mode=draw.choice((0, 0, 1, 9)), table=draw.choice((0, 1, 2, 3, 3, 5)))
            machine = made(MEANING, frames=frames, specials=specials)
            copied, closed = [[k for k in range(6) if draw.random() < 0.3] for _ in range(2)]
            address, right = draw.randrange(16), draw.choice("rwx")
            place = (MEANING, frames, specials["table"])
            told = wanted(machine, copied, closed, address, right)
            if right not in rights_at(*place, specials["mode"] == 0, address // 4):
                self.assertEqual(told, ("refused",))
                continue
            frame = frame_of(*place, address // 4)
            may = {"r": frame not in copied, "x": frame not in closed}
            may["w"] = frame not in copied and frame != specials["table"]
            cell = (specials["table"], address // 4)
            self.assertEqual(told, ("wanted", frame, cell) if may[right] else ("barred", frame))
            holders = {frame: (8, True)}
            untrue = first_untrue(mapping_of({cell[1]: (8, right, cell)}), machine, holders, copied, closed)
            self.assertEqual(untrue, None if may[right] else cell[1])


if __name__ == "__main__":
    unittest.main()
