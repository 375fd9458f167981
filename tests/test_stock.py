"""Stocks: S4.1 to S4.5, S4.7, S4.8, and the interface of worldsalone/stock.py."""

import random
import unittest

from samples import ODD, assert_new, one_book, one_meaning, some_specials, spoil
from stocks import Model
from worldsalone.bare import Box
from worldsalone.errors import NoRoom, NotThere, UnknownWorld
from worldsalone.sharing import groups, least_full, share_alike
from worldsalone.stock import Stock

MEANING = one_meaning(one_book(()))
BEFORE = [15, 14, 13, 12]


def some_box(many=8):
    """A box whose frames hold words already."""
    return Box(MEANING, [BEFORE] * many, some_specials(), {"tty": [], "net": []})


def stock_of(frames=(6, 1, 4, 2), many=8):
    """The tuple (box, stock) of a new stock with these frames of the box."""
    box = some_box(many)
    return (box, Stock(box, list(frames)))


def words(k):
    """The words of a frame that differ for different k below 16."""
    return [k, 0, k, 1]


def filled(frames=(6, 1, 4, 2), worlds=(4,)):
    """The tuple (box, stock) of a stock whose worlds have so many frames; the frames of the first are all in."""
    box, stock = stock_of(frames)
    for w, many in enumerate(worlds):
        stock.open_world([words(4 * w + k) for k in range(many)])
    for frame in range(worlds[0]):
        stock.brought(0, frame, False, [])
    return (box, stock)


def shared(worlds=2):
    """A stock of six frames in which frame 0 of all worlds is shared in box frame 1; 2, 3, 4, 5, 6 are free."""
    box, stock = stock_of((6, 5, 4, 3, 2, 1))
    for _ in range(worlds):
        stock.open_world([words(7), words(1), words(2)])
    for w in range(worlds):
        stock.brought(w, 0, False, [])
    share_alike(stock)
    return (box, stock)


def state(stock):
    """All that a stock tells, to see whether it changed."""
    told = [stock.worlds(), stock.free(), stock.full()]
    for w in stock.worlds():
        frames = list(range(stock.many(w))) + [("copy", k) for k in stock.copies(w)]
        told.append((w, stock.copies(w), [(stock.where(w, k), stock.frame_words(w, k)) for k in frames]))
    return told + [stock.lying(g) for g in sorted(stock.free() + stock.full())]


class Opening(unittest.TestCase):
    def test_fewer_than_four_frames(self):
        for frames in ([], [1], [1, 2], [3, 1, 2], (0, 1, 2)):
            with self.assertRaises(NoRoom):
                Stock(some_box(), frames)
        self.assertEqual(Stock(some_box(), (3, 0, 2, 1)).free(), [0, 1, 2, 3])

    def test_all_is_free_at_first(self):
        box, stock = stock_of()
        self.assertEqual((stock.free(), stock.full(), stock.worlds()), ([1, 2, 4, 6], [], []))
        self.assertEqual([stock.lying(g) for g in (1, 2, 4, 6)], [[]] * 4)
        self.assertEqual(box.frames(), [BEFORE] * 8)

    def test_the_frames_may_be_changed_afterwards(self):
        frames = [6, 1, 4, 2]
        stock = Stock(some_box(), frames)
        frames[:] = [0, 0, 0, 0]
        self.assertEqual(stock.free(), [1, 2, 4, 6])

    def test_worlds_get_the_next_numbers(self):
        stock = stock_of()[1]
        self.assertEqual([stock.open_world([words(k)]) for k in range(3)], [0, 1, 2])
        stock.close_world(1)
        self.assertEqual(stock.worlds(), [0, 2])
        self.assertEqual((stock.open_world([words(1), words(2)]), stock.worlds(), stock.many(3)), (3, [0, 2, 3], 2))
        stock.close_world(3)
        self.assertEqual((stock.open_world([words(1)]), stock.worlds()), (4, [0, 2, 4]))

    def test_all_frames_are_out_when_a_world_is_opened(self):
        box, stock = stock_of()
        contents = [words(1), tuple(words(2)), words(1)]
        stock.open_world(contents)
        spoil(contents)
        self.assertEqual([stock.where(0, k) for k in range(3)], [("out",)] * 3)
        self.assertEqual([stock.frame_words(0, k) for k in range(3)], [words(1), words(2), words(1)])
        self.assertEqual((stock.many(0), stock.copies(0), box.frames()), (3, [], [BEFORE] * 8))

    def test_contents_with_one_list_twice(self):
        stock = stock_of()[1]
        one = words(3)
        stock.open_world([one, one])
        stock.write(0, 0, 0, 9)
        self.assertEqual((stock.frame_words(0, 1), one), (words(3), words(3)))

    def test_closing(self):
        box, stock = filled(worlds=(2, 2))
        stock.brought(1, 1, False, [])
        self.assertEqual(stock.close_world(0), ((0, 0, 1), (0, 1, 2)))
        self.assertEqual((stock.worlds(), stock.free(), stock.full()), ([1], [1, 2, 6], [4]))
        self.assertEqual((stock.where(1, 1), stock.frame_words(1, 0)), (("in", 4), words(4)))
        self.assertEqual(stock.close_world(1), ((1, 1, 4),))
        self.assertEqual((stock.worlds(), stock.free(), stock.full()), ([], [1, 2, 4, 6], []))

    def test_closing_a_world_whose_frames_are_shared(self):
        stock = shared(3)[1]
        self.assertEqual(stock.close_world(1), ((1, 0, 1),))
        self.assertEqual((stock.where(0, 0), stock.where(2, 0)), (("shared", 1), ("shared", 1)))
        self.assertEqual(stock.close_world(0), ((0, 0, 1),))
        self.assertEqual((stock.where(2, 0), stock.full()), (("in", 1), [1]))
        self.assertEqual(stock.frame_words(2, 0), words(7))
        self.assertEqual(stock.close_world(2), ((2, 0, 1),))
        self.assertEqual((stock.free(), stock.lying(1)), ([1, 2, 3, 4, 5, 6], []))

    def test_closing_a_world_whose_frames_are_shared_with_one_another(self):
        stock = stock_of()[1]
        stock.open_world([words(1), words(1), words(2)])
        for frame in range(3):
            stock.brought(0, frame, False, [])
        share_alike(stock)
        self.assertEqual(stock.close_world(0), ((0, 0, 1), (0, 1, 1), (0, 2, 4)))
        self.assertEqual(stock.free(), [1, 2, 4, 6])


class PuttingOut(unittest.TestCase):
    def test_a_frame_that_is_in(self):
        box, stock = filled()
        box.poke(2, 3, 11)
        self.assertEqual(stock.put_out(0, 1), ((0, 1, 2),))
        self.assertEqual((stock.where(0, 1), stock.free(), stock.full()), (("out",), [2], [1, 4, 6]))
        self.assertEqual(stock.frame_words(0, 1), [1, 0, 1, 11])
        box.poke(2, 0, 5)
        self.assertEqual(stock.frame_words(0, 1), [1, 0, 1, 11])

    def test_a_shared_frame(self):
        stock = shared(3)[1]
        self.assertEqual(stock.put_out(1, 0), ((1, 0, 1),))
        self.assertEqual([stock.where(w, 0) for w in range(3)], [("shared", 1), ("out",), ("shared", 1)])
        self.assertEqual(stock.put_out(0, 0), ((0, 0, 1),))
        self.assertEqual([stock.where(w, 0) for w in range(3)], [("out",), ("out",), ("in", 1)])
        self.assertEqual([stock.frame_words(w, 0) for w in range(3)], [words(7)] * 3)

    def test_a_frame_that_is_out(self):
        stock = shared()[1]
        before = state(stock)
        self.assertEqual(stock.put_out(0, 2), ())
        self.assertEqual(state(stock), before)

    def test_full_frames_become_full_anew(self):
        stock = filled()[1]
        self.assertEqual(stock.full(), [1, 2, 4, 6])
        stock.put_out(0, 1)
        stock.brought(0, 1, False, [])
        self.assertEqual(stock.full(), [1, 4, 6, 2])


class Bringing(unittest.TestCase):
    def test_out_for_reading_and_for_writing_with_free_frames(self):
        for is_writing in (False, True):
            box, stock = stock_of()
            stock.open_world([words(3), words(5)])
            self.assertEqual(stock.brought(0, 1, is_writing, []), (1, ()))
            self.assertEqual(stock.brought(0, 0, is_writing, []), (2, ()))
            self.assertEqual((stock.free(), stock.full(), stock.where(0, 1)), ([4, 6], [1, 2], ("in", 1)))
            self.assertEqual((stock.lying(1), stock.lying(2)), ([(0, 1)], [(0, 0)]))
            frames = [BEFORE] * 8
            frames[1:3] = [words(5), words(3)]
            self.assertEqual(box.frames(), frames)

    def test_the_least_free_frame_that_is_not_kept(self):
        stock = stock_of()[1]
        stock.open_world([words(3)])
        self.assertEqual(stock.brought(0, 0, False, [1, 4, 5, 99]), (2, ()))

    def test_in(self):
        for is_writing in (False, True):
            stock = filled()[1]
            before = state(stock)
            for kept in ([], [1, 2, 4, 6]):
                self.assertEqual(stock.brought(0, 2, is_writing, kept), (4, ()))
                self.assertTrue(stock.can_bring(0, 2, is_writing, kept))
            self.assertEqual(state(stock), before)

    def test_shared_for_reading(self):
        stock = shared()[1]
        before = state(stock)
        for kept in ([], [1, 2, 3, 4, 5, 6]):
            self.assertEqual(stock.brought(1, 0, False, kept), (1, ()))
            self.assertTrue(stock.can_bring(1, 0, False, kept))
        self.assertEqual(state(stock), before)

    def test_shared_for_writing_with_free_frames(self):
        box, stock = shared(3)
        self.assertEqual(stock.brought(1, 0, True, [2]), (3, ((1, 0, 1),)))
        self.assertEqual([stock.where(w, 0) for w in range(3)], [("shared", 1), ("in", 3), ("shared", 1)])
        self.assertEqual(stock.brought(0, 0, True, []), (2, ((0, 0, 1),)))
        self.assertEqual([stock.where(w, 0) for w in range(3)], [("in", 2), ("in", 3), ("in", 1)])
        self.assertEqual([box.frames()[g] for g in (1, 2, 3)], [words(7)] * 3)
        self.assertEqual(stock.full(), [1, 3, 2])

    def test_out_without_free_frames(self):
        box, stock = filled(worlds=(4, 2))
        self.assertEqual(stock.brought(1, 1, False, []), (1, ((0, 0, 1),)))
        self.assertEqual((stock.where(0, 0), stock.full()), (("out",), [2, 4, 6, 1]))
        self.assertEqual(stock.brought(1, 0, True, [2, 4]), (6, ((0, 3, 6),)))
        self.assertEqual((stock.full(), stock.free()), ([2, 4, 1, 6], []))
        self.assertEqual(stock.brought(0, 3, False, [2, 4, 6]), (1, ((1, 1, 1),)))
        self.assertEqual([stock.frame_words(0, k) for k in range(4)], [words(k) for k in range(4)])
        self.assertEqual([stock.frame_words(1, k) for k in range(2)], [words(4), words(5)])
        self.assertEqual(box.frames()[1], words(3))

    def test_the_one_that_has_been_full_for_the_longest_time_is_emptied(self):
        stock = stock_of()[1]
        stock.open_world([words(k) for k in range(6)])
        for frame in (3, 1, 0, 2):
            stock.brought(0, frame, False, [])
        stock.put_out(0, 3)
        stock.brought(0, 3, False, [])
        self.assertEqual(stock.full(), [2, 4, 6, 1])
        self.assertEqual(stock.brought(0, 5, True, []), (2, ((0, 1, 2),)))
        self.assertEqual(stock.brought(0, 4, True, []), (4, ((0, 0, 4),)))
        self.assertEqual(stock.full(), [6, 1, 2, 4])

    def test_a_shared_frame_is_emptied(self):
        stock = shared(2)[1]
        stock.open_world([words(k) for k in range(8, 14)])
        for frame in range(5):
            stock.brought(2, frame, False, [])
        self.assertEqual(stock.brought(2, 5, False, []), (1, ((0, 0, 1), (1, 0, 1))))
        self.assertEqual((stock.where(0, 0), stock.where(1, 0), stock.full()), (("out",), ("out",), [2, 3, 4, 5, 6, 1]))
        self.assertEqual([stock.frame_words(w, 0) for w in range(2)], [words(7)] * 2)

    def own_shared_is_oldest(self):
        """A stock without free frames in which the box frame that (0, 0) and (1, 0) share is the oldest one."""
        box, stock = shared(2)
        stock.open_world([words(k) for k in range(8, 13)])
        for frame in range(5):
            stock.brought(2, frame, False, [])
        return (box, stock)

    def test_the_own_shared_box_frame_is_emptied(self):
        box, stock = self.own_shared_is_oldest()
        self.assertEqual(stock.brought(1, 0, True, [2]), (1, ((0, 0, 1),)))
        self.assertEqual((stock.where(0, 0), stock.where(1, 0)), (("out",), ("in", 1)))
        self.assertEqual((stock.full(), stock.lying(1)), ([2, 3, 4, 5, 6, 1], [(1, 0)]))
        self.assertEqual((box.frames()[1], stock.frame_words(0, 0)), (words(7), words(7)))

    def test_the_own_shared_box_frame_is_kept(self):
        stock = self.own_shared_is_oldest()[1]
        self.assertEqual(stock.brought(1, 0, True, [1]), (2, ((1, 0, 1), (2, 0, 2))))
        self.assertEqual((stock.where(0, 0), stock.where(1, 0), stock.full()), (("in", 1), ("in", 2), [1, 3, 4, 5, 6, 2]))

    def test_no_room(self):
        stock = filled(worlds=(4, 1))[1]
        before = state(stock)
        for is_writing in (False, True):
            for kept in ([1, 2, 4, 6], (6, 4, 2, 1, 0, 7)):
                self.assertFalse(stock.can_bring(1, 0, is_writing, kept))
                with self.assertRaises(NoRoom):
                    stock.brought(1, 0, is_writing, kept)
        self.assertEqual(state(stock), before)
        for kept in ([1, 2, 4], [1, 2, 6, 0, 3], []):
            self.assertTrue(stock.can_bring(1, 0, True, kept))
        self.assertEqual(state(stock), before)
        stock = shared()[1]
        before = state(stock)
        with self.assertRaises(NoRoom):
            stock.brought(0, 0, True, [1, 2, 3, 4, 5, 6])
        self.assertFalse(stock.can_bring(0, 0, True, [1, 2, 3, 4, 5, 6]))
        self.assertEqual(state(stock), before)

    def test_kept_stays_as_it_is(self):
        stock = stock_of()[1]
        stock.open_world([words(3)])
        kept = [1, 2]
        stock.brought(0, 0, False, kept)
        self.assertEqual(kept, [1, 2])

    def test_three_kept_frames_always_leave_room(self):
        stock = filled(worlds=(4, 4))[1]
        kept = []
        for frame in range(4):
            kept.append(stock.brought(1, frame, frame % 2 == 1, kept)[0])
        self.assertEqual(sorted(kept), [1, 2, 4, 6])
        self.assertEqual([stock.where(1, k)[0] for k in range(4)], ["in"] * 4)


class Writing(unittest.TestCase):
    def test_in(self):
        box, stock = filled()
        self.assertEqual(stock.write(0, 2, 1, 9), ())
        self.assertEqual((stock.read(0, 2, 1), stock.frame_words(0, 2), box.frames()[4]), (9, [2, 9, 2, 1], [2, 9, 2, 1]))
        self.assertEqual((stock.where(0, 2), stock.full()), (("in", 4), [1, 2, 4, 6]))

    def test_out(self):
        box, stock = stock_of()
        stock.open_world([words(3)])
        self.assertEqual(stock.write(0, 0, 3, 15), ())
        self.assertEqual((stock.frame_words(0, 0), stock.where(0, 0)), ([3, 0, 3, 15], ("out",)))
        self.assertEqual(box.frames(), [BEFORE] * 8)
        stock.brought(0, 0, False, [])
        self.assertEqual(box.frames()[1], [3, 0, 3, 15])

    def test_shared_with_a_free_box_frame(self):
        for word in (9, 7):
            box, stock = shared(3)
            self.assertEqual(stock.write(1, 0, 0, word), ((1, 0, 1),))
            self.assertEqual([stock.where(w, 0) for w in range(3)], [("shared", 1), ("in", 2), ("shared", 1)])
            self.assertEqual([stock.frame_words(w, 0) for w in range(3)], [words(7), [word, 0, 7, 1], words(7)])
            self.assertEqual((stock.full(), box.frames()[2]), ([1, 2], [word, 0, 7, 1]))
            self.assertEqual(stock.write(2, 0, 0, word), ((2, 0, 1),))
            self.assertEqual([stock.where(w, 0) for w in range(3)], [("in", 1), ("in", 2), ("in", 3)])
            self.assertEqual(stock.write(0, 0, 0, 4), ())

    def test_shared_without_a_free_box_frame(self):
        for word in (9, 7):
            stock = shared()[1]
            stock.open_world([words(k) for k in range(5)])
            for frame in range(5):
                stock.brought(2, frame, False, [])
            self.assertEqual(stock.write(0, 0, 0, word), ((0, 0, 1),))
            self.assertEqual((stock.where(0, 0), stock.where(1, 0)), (("out",), ("in", 1)))
            self.assertEqual((stock.frame_words(0, 0), stock.frame_words(1, 0)), ([word, 0, 7, 1], words(7)))
            self.assertEqual(stock.full(), [1, 2, 3, 4, 5, 6])

    def test_an_equal_word_where_nothing_is_shared(self):
        stock = filled(worlds=(2, 1))[1]
        before = state(stock)
        self.assertEqual((stock.write(0, 1, 0, 1), stock.write(1, 0, 0, 4)), ((), ()))
        self.assertEqual(state(stock), before)

    def test_a_copy_stays(self):
        stock = filled(worlds=(2,))[1]
        stock.make_copy(0, 1, words(9))
        stock.brought(0, ("copy", 1), False, [])
        self.assertEqual(stock.write(0, 1, 0, 8), ())
        self.assertEqual((stock.copies(0), stock.frame_words(0, ("copy", 1))), ([1], words(9)))
        self.assertEqual(stock.where(0, ("copy", 1)), ("in", 4))

    def test_by_the_box(self):
        box, stock = filled()
        box.poke(4, 0, 14)
        self.assertEqual((stock.read(0, 2, 0), stock.frame_words(0, 2)), (14, [14, 0, 2, 1]))

    def test_read_everywhere(self):
        stock = shared()[1]
        self.assertEqual([stock.read(0, 0, k) for k in range(4)], words(7))
        self.assertEqual([stock.read(1, 2, k) for k in range(4)], words(2))
        stock.make_copy(0, 0, words(6))
        self.assertEqual([stock.read(0, ("copy", 0), k) for k in range(4)], words(6))
        stock.brought(0, ("copy", 0), False, [])
        self.assertEqual([stock.read(0, ("copy", 0), k) for k in range(4)], words(6))


class Copies(unittest.TestCase):
    def test_made_and_brought(self):
        box, stock = filled(worlds=(2,))
        own = words(9)
        self.assertEqual(stock.make_copy(0, 1, own), ())
        own[0] = 0
        self.assertEqual((stock.copies(0), stock.where(0, ("copy", 1))), ([1], ("out",)))
        self.assertEqual(stock.frame_words(0, ("copy", 1)), words(9))
        self.assertEqual(stock.brought(0, ("copy", 1), False, [4]), (6, ()))
        self.assertEqual((stock.where(0, ("copy", 1)), stock.lying(6)), (("in", 6), [(0, ("copy", 1))]))
        self.assertEqual((box.frames()[6], stock.many(0), stock.where(0, 1)), (words(9), 2, ("in", 2)))
        self.assertEqual(stock.brought(0, ("copy", 1), False, []), (6, ()))

    def test_made_anew(self):
        stock = filled(worlds=(2,))[1]
        stock.make_copy(0, 1, words(9))
        self.assertEqual(stock.make_copy(0, 1, words(8)), ())
        stock.brought(0, ("copy", 1), False, [])
        self.assertEqual(stock.make_copy(0, 1, words(7)), ((0, ("copy", 1), 4),))
        self.assertEqual((stock.where(0, ("copy", 1)), stock.free(), stock.copies(0)), (("out",), [4, 6], [1]))
        self.assertEqual(stock.frame_words(0, ("copy", 1)), words(7))

    def test_put_out_and_emptied(self):
        stock = filled(worlds=(2, 3))[1]
        stock.make_copy(0, 0, words(9))
        stock.brought(0, ("copy", 0), False, [])
        self.assertEqual(stock.put_out(0, ("copy", 0)), ((0, ("copy", 0), 4),))
        self.assertEqual((stock.where(0, ("copy", 0)), stock.copies(0)), (("out",), [0]))
        stock.brought(0, ("copy", 0), False, [])
        stock.brought(1, 0, False, [])
        self.assertEqual(stock.brought(1, 1, False, [1, 2, 6]), (4, ((0, ("copy", 0), 4),)))
        self.assertEqual((stock.copies(0), stock.frame_words(0, ("copy", 0))), ([0], words(9)))

    def test_dropped(self):
        stock = filled(worlds=(2,))[1]
        self.assertEqual(stock.drop_copy(0, 1), ())
        stock.make_copy(0, 1, words(9))
        self.assertEqual(stock.drop_copy(0, 1), ())
        self.assertEqual(stock.copies(0), [])
        stock.make_copy(0, 1, words(9))
        stock.make_copy(0, 0, words(8))
        stock.brought(0, ("copy", 1), False, [])
        self.assertEqual(stock.drop_copy(0, 1), ((0, ("copy", 1), 4),))
        self.assertEqual((stock.copies(0), stock.free()), ([0], [4, 6]))
        with self.assertRaises(NotThere):
            stock.where(0, ("copy", 1))

    def test_of_a_world_that_is_closed(self):
        stock = filled(worlds=(2, 2))[1]
        stock.make_copy(0, 0, words(9))
        stock.make_copy(0, 1, words(9))
        stock.make_copy(1, 0, words(5))
        stock.brought(0, ("copy", 1), False, [])
        self.assertEqual(stock.close_world(0), ((0, 0, 1), (0, 1, 2), (0, ("copy", 1), 4)))
        self.assertEqual((stock.free(), stock.copies(1)), ([1, 2, 4, 6], [0]))
        self.assertEqual(stock.open_world([words(1), words(2)]), 2)
        self.assertEqual(stock.copies(2), [])

    def test_moves_have_copies_behind_numbers(self):
        box, stock = stock_of(range(16), 16)
        many = 12
        stock.open_world([[k, 0, 0, 0] for k in range(many)])
        for frame in (11, 2, 10, 0):
            stock.make_copy(0, frame, words(frame))
            stock.brought(0, ("copy", frame), False, [])
        for frame in (9, 10, 3):
            stock.brought(0, frame, False, [])
        self.assertEqual(stock.copies(0), [0, 2, 10, 11])
        moves = [(0, 3, 6), (0, 9, 4), (0, 10, 5)]
        moves += [(0, ("copy", 0), 3), (0, ("copy", 2), 1), (0, ("copy", 10), 2), (0, ("copy", 11), 0)]
        self.assertEqual(stock.close_world(0), tuple(moves))


class Refusals(unittest.TestCase):
    def calls(self, stock):
        """The calls with w, frame and place, and whether copies are frames for them."""
        return {
            "close_world": lambda w: stock.close_world(w),
            "many": lambda w: stock.many(w),
            "copies": lambda w: stock.copies(w),
            "where": lambda w, frame: stock.where(w, frame),
            "frame_words": lambda w, frame: stock.frame_words(w, frame),
            "put_out": lambda w, frame: stock.put_out(w, frame),
            "brought for reading": lambda w, frame: stock.brought(w, frame, False, [1, 2, 4, 6]),
            "can_bring for reading": lambda w, frame: stock.can_bring(w, frame, False, []),
            "read": lambda w, frame, place=0: stock.read(w, frame, place),
            "brought for writing": lambda w, frame: stock.brought(w, frame, True, [1, 2, 4, 6]),
            "can_bring for writing": lambda w, frame: stock.can_bring(w, frame, True, []),
            "make_copy": lambda w, frame: stock.make_copy(w, frame, words(1)),
            "drop_copy": lambda w, frame: stock.drop_copy(w, frame),
            "write": lambda w, frame, place=0: stock.write(w, frame, place, 5),
        }

    WITHOUT_FRAME = ("close_world", "many", "copies")
    WITHOUT_COPIES = ("brought for writing", "can_bring for writing", "make_copy", "drop_copy", "write")

    def refuse(self, error, attribute, thing, call):
        with self.assertRaises(error, msg=thing) as caught:
            call()
        self.assertIs(getattr(caught.exception, attribute), thing)

    def setUp(self):
        self.stock = filled(worlds=(3, 2))[1]
        self.stock.make_copy(0, 1, words(9))
        self.stock.make_copy(1, 0, words(9))
        self.stock.open_world([words(1)])
        self.stock.close_world(2)
        self.before = state(self.stock)

    def tearDown(self):
        self.assertEqual(state(self.stock), self.before)

    def test_worlds(self):
        odd = tuple(thing for thing in ODD) + (2, 3, 10 ** 30, "0", (0,), ("copy", 0), Stock)
        for name, call in self.calls(self.stock).items():
            for w in odd:
                if name in self.WITHOUT_FRAME:
                    self.refuse(UnknownWorld, "number", w, lambda: call(w))
                    continue
                for frame in (0, 9, None):
                    self.refuse(UnknownWorld, "number", w, lambda: call(w, frame))

    def test_frames(self):
        odd = ODD + (3, 10 ** 30, "0", (0,), ("copy", 0), ("copy", 2), ("copy", True), ("copy", -1), ("copy",))
        odd += (("copy", 1, 1), ["copy", 1], "copy", ("copies", 1), (1, "copy"), (None, 1), (["copy"], 1), ("copy", (1,)))
        odd += (("copy", None), ("copy", [1]), ("copy", 3), ("copy", 10 ** 30))
        for name, call in self.calls(self.stock).items():
            if name not in self.WITHOUT_FRAME:
                for frame in odd + ((("copy", 1),) if name in self.WITHOUT_COPIES else ()):
                    self.refuse(NotThere, "number", frame, lambda: call(0, frame))
        self.stock.many(1)
        for name, call in self.calls(self.stock).items():
            if name not in self.WITHOUT_FRAME:
                self.refuse(NotThere, "number", 2, lambda: call(1, 2))

    def test_places_behind_frames(self):
        for name in ("read", "write"):
            call = self.calls(self.stock)[name]
            for place in ODD + (4, 10 ** 30, "0", (0,), ("copy", 1)):
                self.refuse(NotThere, "number", place, lambda: call(0, 0, place))
                self.refuse(NotThere, "number", place, lambda: call(1, 1, place))
                frame = 3
                self.refuse(NotThere, "number", frame, lambda: call(0, frame, place))
                w = 2
                self.refuse(UnknownWorld, "number", w, lambda: call(w, frame, place))
        place = 4
        self.refuse(NotThere, "number", place, lambda: self.stock.read(0, ("copy", 1), place))

    def test_places_of_a_shared_frame(self):
        stock = shared()[1]
        before = state(stock)
        for place in ODD + (4,):
            for w in (0, 1):
                self.refuse(NotThere, "number", place, lambda: stock.write(w, 0, place, 5))
                self.refuse(NotThere, "number", place, lambda: stock.read(w, 0, place))
        self.assertEqual(state(stock), before)

    def test_any_list_where_a_copy_is_refused(self):
        for thing in ([], [None], [99] * 20, [[]]):
            w, frame = 2, 3
            self.refuse(UnknownWorld, "number", w, lambda: self.stock.make_copy(w, frame, thing))
            self.refuse(NotThere, "number", frame, lambda: self.stock.make_copy(0, frame, thing))

    def test_lying(self):
        for g in ODD + (0, 3, 5, 7, 8, 10 ** 30, (1,), "1"):
            self.refuse(NotThere, "number", g, lambda: self.stock.lying(g))

    def test_copies_are_allowed_elsewhere(self):
        self.assertEqual(self.stock.where(0, ("copy", 1)), ("out",))
        self.assertTrue(self.stock.can_bring(0, ("copy", 1), False, [1]))
        self.assertFalse(self.stock.can_bring(0, ("copy", 1), False, [1, 2, 4, 6]))
        self.assertEqual(self.stock.put_out(0, ("copy", 1)), ())
        self.assertEqual(self.stock.read(1, ("copy", 0), 3), 1)

    def test_room_comes_last(self):
        kept = [1, 2, 4, 6]
        with self.assertRaises(UnknownWorld):
            self.stock.brought(2, 9, True, kept)
        with self.assertRaises(NotThere):
            self.stock.brought(1, ("copy", 0), True, kept)
        with self.assertRaises(NoRoom):
            self.stock.brought(1, ("copy", 0), False, kept)


class Returned(unittest.TestCase):
    def test_lists_are_new(self):
        stock = shared()[1]
        stock.make_copy(0, 0, words(4))
        before = state(stock)
        calls = (stock.worlds, stock.free, stock.full, lambda: stock.lying(1), lambda: stock.frame_words(0, 0))
        calls += (lambda: stock.frame_words(0, 1), lambda: stock.copies(0), lambda: stock.frame_words(0, ("copy", 0)))
        for call in calls:
            assert_new(self, call)
            spoil(call())
        self.assertEqual(state(stock), before)

    def test_words_of_one_frame_of_the_box_are_told_apart(self):
        stock = shared()[1]
        one, other = stock.frame_words(0, 0), stock.frame_words(1, 0)
        one[0] = 99
        self.assertEqual(other, words(7))


class Drawn(unittest.TestCase):
    """Drawn sequences of all calls, against a stock that is told once more from the words of S4."""

    def compare(self, box, stock, model):
        self.assertEqual((stock.worlds(), stock.free(), stock.full()), (sorted(model.sizes), model.free(), model.full))
        self.assertEqual([stock.lying(g) for g in model.frames], [model.lying(g) for g in model.frames])
        for seat, told in model.words.items():
            self.assertEqual(stock.frame_words(*seat), told, seat)
            self.assertEqual(stock.where(*seat), model.where(seat), seat)
        for w in model.sizes:
            copied = sorted(seat[1][1] for seat in model.words if seat[0] == w and isinstance(seat[1], tuple))
            self.assertEqual((stock.copies(w), stock.many(w)), (copied, model.sizes[w]))
        self.assertEqual((groups(stock), least_full(stock)), (model.groups(), self.least(model)))
        self.assertEqual([box.frames()[g] for g in range(9) if g not in model.frames], [BEFORE] * (9 - len(model.frames)))

    def least(self, model):
        """The number of full frames of the box behind sharing, in other words."""
        full = [(g, [seat for seat, at in model.at.items() if at == g]) for g in model.full]
        alike = {tuple(model.words[seats[0]]) for _, seats in full if not isinstance(seats[0][1], tuple)}
        return len(alike) + sum(isinstance(seats[0][1], tuple) for _, seats in full)

    def bring(self, draw, stock, model, seat):
        kept = draw.sample(range(9), draw.choice((0, 0, 1, 2, 3, 8)))
        is_writing = draw.random() < 0.5 and not isinstance(seat[1], tuple)
        told = model.is_well(seat, is_writing) or model.room(kept) is not None
        self.assertEqual(stock.can_bring(*seat, is_writing, kept), told)
        if told:
            self.assertEqual(stock.brought(*seat, is_writing, kept), model.brought(seat, is_writing, kept))
            self.assertIn(stock.where(*seat)[0], ("in",) if is_writing else ("in", "shared"))
        else:
            with self.assertRaises(NoRoom):
                stock.brought(*seat, is_writing, kept)

    def turn(self, draw, box, stock, model):
        seats = sorted(model.words, key=str)
        kind = draw.choice(("open", "close", "out", "bring", "bring", "bring", "write", "copy", "drop", "share", "poke"))
        if kind == "open" or not seats:
            contents = [[draw.randrange(2) for _ in range(4)] for _ in range(draw.choice((1, 3, 5)))]
            if len(model.sizes) < 3:
                self.assertEqual(stock.open_world(contents), model.open_world(contents))
            return
        seat = draw.choice(seats)
        own = (seat[0], seat[1][1]) if isinstance(seat[1], tuple) else seat
        if kind == "close" and draw.random() < 0.3:
            self.assertEqual(stock.close_world(seat[0]), model.close_world(seat[0]))
        if kind == "out":
            self.assertEqual(stock.put_out(*seat), model.put_out(seat))
        if kind == "bring":
            self.bring(draw, stock, model, seat)
        if kind == "write":
            place, word = draw.randrange(4), draw.randrange(2)
            self.assertEqual(stock.write(*own, place, word), model.write(own, place, word))
        if kind == "copy":
            told = [draw.randrange(2) for _ in range(4)]
            self.assertEqual(stock.make_copy(*own, told), model.make_copy(*own, told))
        if kind == "drop":
            self.assertEqual(stock.drop_copy(*own), model.drop([(own[0], ("copy", own[1]))]))
        if kind == "share":
            self.assertEqual(share_alike(stock), model.share_alike())
        if kind == "poke" and model.where(own)[0] == "in":
            box.poke(model.at[own], 0, 1)
            model.words[own][0] = 1

    def test_drawn_sequences(self):
        for seed in range(40):
            draw = random.Random(seed)
            frames = draw.sample(range(9), draw.choice((4, 5, 7)))
            box = some_box(9)
            stock, model = Stock(box, frames), Model(frames)
            for _ in range(60):
                self.turn(draw, box, stock, model)
                self.compare(box, stock, model)


if __name__ == "__main__":
    unittest.main()
