"""Sharing: S4.6 and the interface of worldsalone/sharing.py."""

import unittest

from samples import assert_new, one_book, one_meaning, some_specials
from worldsalone.bare import Box
from worldsalone.sharing import groups, least_full, share_alike
from worldsalone.stock import Stock

MEANING = one_meaning(one_book(()))
ONE, TWO, THREE = [1, 2, 3, 4], [2, 2, 2, 2], [1, 2, 3, 5]


def stock_of(*worlds, many=9):
    """The stock whose worlds have these frames, all brought, in order, into the box frames 0, 1, 2 .."""
    box = Box(MEANING, [[0] * 4] * many, some_specials(), {"tty": [], "net": []})
    stock = Stock(box, range(many))
    for w, contents in enumerate(worlds):
        stock.open_world(contents)
        for frame in range(len(contents)):
            stock.brought(w, frame, False, [])
    return stock


def places(stock):
    """Where all frames lie, without copies."""
    return [[stock.where(w, frame) for frame in range(stock.many(w))] for w in stock.worlds()]


class Groups(unittest.TestCase):
    def test_nothing_full(self):
        stock = stock_of()
        self.assertEqual((groups(stock), least_full(stock), share_alike(stock)), ([], 0, ([], [])))
        stock.open_world([ONE, ONE])
        self.assertEqual((groups(stock), least_full(stock), share_alike(stock)), ([], 0, ([], [])))

    def test_alone_and_together(self):
        stock = stock_of([TWO, ONE, TWO, THREE], [ONE, TWO, THREE])
        self.assertEqual((groups(stock), least_full(stock)), ([[0, 2, 5], [1, 4], [3, 6]], 3))
        self.assertEqual((stock.full(), stock.free()), (list(range(7)), [7, 8]))

    def test_ordered_by_their_first_members_whatever_became_full_first(self):
        stock = stock_of([ONE, TWO, ONE, TWO])
        stock.put_out(0, 0)
        stock.put_out(0, 1)
        stock.brought(0, 1, False, [])
        stock.brought(0, 0, False, [])
        self.assertEqual(stock.full(), [2, 3, 0, 1])
        self.assertEqual(groups(stock), [[0, 3], [1, 2]])

    def test_frames_that_are_out_do_not_count(self):
        stock = stock_of([ONE, ONE, ONE])
        stock.put_out(0, 1)
        self.assertEqual(groups(stock), [[0, 2]])

    def test_words_of_free_frames_of_the_box_do_not_count(self):
        stock = stock_of([[0, 0, 0, 0], ONE])
        stock.put_out(0, 1)
        self.assertEqual((groups(stock), least_full(stock)), ([[0]], 1))

    def test_copies_are_left_out(self):
        stock = stock_of([ONE, TWO])
        for frame in range(2):
            stock.make_copy(0, frame, ONE)
            stock.brought(0, ("copy", frame), False, [])
        self.assertEqual((groups(stock), least_full(stock)), ([[0], [1]], 4))
        self.assertEqual(share_alike(stock), ([], []))
        self.assertEqual(stock.where(0, ("copy", 1)), ("in", 3))
        stock.brought(stock.open_world([ONE]), 0, False, [])
        self.assertEqual((groups(stock), least_full(stock)), ([[0, 4], [1]], 4))
        self.assertEqual(share_alike(stock), ([4], [0]))

    def test_shared_frames_are_one_frame_of_the_box(self):
        stock = stock_of([ONE, ONE], [ONE])
        share_alike(stock)
        stock.brought(stock.open_world([ONE]), 0, False, [])
        self.assertEqual((groups(stock), least_full(stock)), ([[0, 1]], 1))

    def test_the_frames_of_other_lists_of_words(self):
        stock = stock_of([ONE, ONE[::-1], [1, 2, 3, 4][:3] + [0], ONE])
        self.assertEqual(groups(stock), [[0, 3], [1], [2]])


class Sharing(unittest.TestCase):
    def test_frames_of_one_world(self):
        stock = stock_of([ONE, TWO, ONE])
        self.assertEqual(share_alike(stock), ([2], [0]))
        self.assertEqual(places(stock), [[("shared", 0), ("in", 1), ("shared", 0)]])
        self.assertEqual((stock.full(), stock.lying(0)), ([0, 1], [(0, 0), (0, 2)]))

    def test_frames_of_several_worlds(self):
        stock = stock_of([TWO, ONE, TWO, THREE], [ONE, TWO, THREE])
        self.assertEqual(share_alike(stock), ([2, 4, 5, 6], [0, 1, 3]))
        self.assertEqual(places(stock)[0], [("shared", 0), ("shared", 1), ("shared", 0), ("shared", 3)])
        self.assertEqual(places(stock)[1], [("shared", 1), ("shared", 0), ("shared", 3)])
        self.assertEqual(stock.lying(0), [(0, 0), (0, 2), (1, 1)])
        self.assertEqual((stock.full(), stock.free()), ([0, 1, 3], [2, 4, 5, 6, 7, 8]))
        self.assertEqual([stock.frame_words(1, k) for k in range(3)], [ONE, TWO, THREE])

    def test_groups_of_one_are_neither_freed_nor_joined(self):
        self.assertEqual(share_alike(stock_of([ONE, TWO, THREE])), ([], []))

    def test_a_second_sharing_does_nothing(self):
        stock = stock_of([TWO, ONE, TWO, THREE], [ONE, TWO, THREE])
        share_alike(stock)
        before = (places(stock), stock.full(), groups(stock), least_full(stock))
        self.assertEqual(share_alike(stock), ([], []))
        self.assertEqual((places(stock), stock.full(), groups(stock), least_full(stock)), before)
        self.assertEqual(before[2:], ([[0], [1], [3]], 3))

    def test_the_least_keeps_its_place_among_the_full_ones(self):
        stock = stock_of([ONE, TWO, ONE, THREE, TWO])
        for frame in (0, 1):
            stock.put_out(0, frame)
        for frame in (0, 1):
            stock.brought(0, frame, False, [])
        self.assertEqual(stock.full(), [2, 3, 4, 0, 1])
        self.assertEqual(share_alike(stock), ([2, 4], [0, 1]))
        self.assertEqual(stock.full(), [3, 0, 1])
        stock.open_world([[9] * 4] * 7)
        for frame in range(6):
            stock.brought(1, frame, False, [])
        self.assertEqual(stock.brought(1, 6, False, []), (3, ((0, 3, 3),)))

    def test_a_shared_one_joins_and_is_joined(self):
        stock = stock_of([ONE, ONE], [TWO, ONE])
        stock.put_out(0, 0)
        stock.put_out(1, 1)
        stock.brought(1, 1, False, [])
        self.assertEqual(share_alike(stock), ([1], [0]))
        stock.brought(0, 0, False, [])
        self.assertEqual(stock.where(0, 0), ("in", 1))
        self.assertEqual(share_alike(stock), ([1], [0]))
        self.assertEqual(stock.lying(0), [(0, 0), (0, 1), (1, 1)])

    def test_behind_a_write_alike_frames_come_together(self):
        stock = stock_of([ONE, THREE])
        self.assertEqual(share_alike(stock), ([], []))
        stock.write(0, 1, 3, 4)
        self.assertEqual(share_alike(stock), ([1], [0]))
        stock.write(0, 0, 3, 9)
        self.assertEqual((stock.frame_words(0, 0), stock.frame_words(0, 1)), ([1, 2, 3, 9], ONE))

    def test_lists_are_new(self):
        stock = stock_of([ONE, TWO, ONE])
        assert_new(self, lambda: groups(stock))
        freed, joined = share_alike(stock)
        freed.append(99)
        joined.append(99)
        assert_new(self, lambda: share_alike(stock))
        self.assertEqual((stock.full(), share_alike(stock)), ([0, 1], ([], [])))


if __name__ == "__main__":
    unittest.main()
