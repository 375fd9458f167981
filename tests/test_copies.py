"""Stop words, doubtful words and copies: S7.1 to S7.3, and the interface of worldsalone/copies.py."""

import unittest

from samples import A, B, ODD, PRIMITIVES, assert_new, spoil
from worldsalone.books import Book
from worldsalone.copies import Copies, copied_words, doubtful_places, stop_word, stop_words
from worldsalone.errors import UnknownName
from worldsalone.meanings import Meaning

STOP = (("trap", "oops"),)
BOOK = Book(
    2,
    PRIMITIVES,
    ["oops", "help"],
    ["tty"],
    [
        ("stop", 0, STOP, ()),
        ("later", 1, (("move", A, A), ("trap", "oops")), STOP),
        ("inner", 1, (("if", A, STOP, STOP),), STOP),
        ("empty", 0, (), STOP),
        ("both", 2, (("trap", "help"), ("move", A, B)), (("move", A, B),)),
        ("plain", 1, (("prim", A, "inc", (A,)),), STOP),
    ],
)
EVERY = {0: ("plain", (0,)), 1: ("later", (1,)), 2: ("inner", (0,)), 3: ("empty", ()), 4: ("stop", ()), 6: ("both", (0, 1))}
CODE = {**EVERY, 7: ("plain", (1,)), 8: ("stop", ())}


def meaning_of(code, book=BOOK):
    """A meaning with 12 words and this code."""
    return Meaning(book, 4, 3, {}, {}, code)


SOME = meaning_of(CODE)
# Each word has a code, and no instruction but those of plain, later, inner and empty stands in it.
NONE = meaning_of({word: EVERY[word % 4] for word in range(12)})
NAMES = [instruction[0] for instruction in BOOK.instructions()]


class StopWords(unittest.TestCase):
    def test_with_and_without_a_code(self):
        self.assertEqual(stop_words(SOME), [4, 5, 6, 8, 9, 10, 11])
        self.assertEqual(stop_words(meaning_of({})), list(range(12)))
        self.assertEqual(stop_words(NONE), [])

    def test_only_the_first_of_the_user_rows_counts(self):
        full = {word: ("plain", (0,)) for word in range(12)}
        for word, code in ((3, ("stop", ())), (5, ("both", (1, 1)))):
            self.assertEqual(stop_words(meaning_of({**full, word: code})), [word])
        for code in (("later", (0,)), ("inner", (0,)), ("empty", ())):
            self.assertEqual(stop_words(meaning_of({**full, 3: code})), [])

    def test_the_least_one(self):
        self.assertEqual(stop_word(SOME), 4)
        self.assertEqual(stop_word(meaning_of({})), 0)
        self.assertEqual(stop_word(meaning_of({word: ("plain", (0,)) for word in range(11)})), 11)

    def test_a_meaning_without_one(self):
        self.assertIsNone(stop_word(NONE))

    def test_lists_are_new(self):
        assert_new(self, lambda: stop_words(SOME))
        assert_new(self, lambda: stop_words(NONE))
        spoil(stop_words(SOME))
        self.assertEqual(stop_words(SOME), [4, 5, 6, 8, 9, 10, 11])


class Doubtful(unittest.TestCase):
    def test_places(self):
        words = [0, 5, 7, 1]
        self.assertEqual(doubtful_places(SOME, ["plain"], words), [0, 2])
        self.assertEqual(doubtful_places(SOME, ["later"], words), [3])
        self.assertEqual(doubtful_places(SOME, ["plain", "later"], words), [0, 2, 3])
        self.assertEqual(doubtful_places(SOME, ("later", "plain", "plain"), tuple(words)), [0, 2, 3])
        self.assertEqual(doubtful_places(SOME, [], words), [])
        self.assertEqual(doubtful_places(SOME, ["empty", "inner"], words), [])
        self.assertEqual(doubtful_places(SOME, NAMES, []), [])

    def test_words_without_code_and_stop_words_are_not_doubtful(self):
        self.assertEqual(doubtful_places(SOME, NAMES, [4, 5, 6, 8, 9, 10, 11, 3]), [7])
        self.assertEqual(doubtful_places(SOME, ["stop", "both"], list(range(12))), [])

    def test_lists_of_any_length(self):
        self.assertEqual(doubtful_places(SOME, ["plain"], [7] * 9), list(range(9)))

    def test_copied_words(self):
        self.assertEqual(copied_words(SOME, ["plain"], [0, 5, 7, 1]), [4, 5, 4, 1])
        self.assertEqual(copied_words(SOME, NAMES, (0, 6, 7, 1)), [4, 6, 4, 4])
        self.assertEqual(copied_words(SOME, [], [0, 5, 7, 1]), [0, 5, 7, 1])
        self.assertEqual(copied_words(SOME, NAMES, []), [])

    def test_copied_words_without_a_stop_word(self):
        for doubted, words in ((["plain"], [0]), ([], []), ([], [1, 2, 3, 0])):
            with self.assertRaises(UnknownName) as caught:
                copied_words(NONE, doubted, words)
            self.assertEqual(caught.exception.name, "stop")
        self.assertEqual(doubtful_places(NONE, ["plain"], [0, 1, 4]), [0, 2])

    def test_lists_are_new_and_arguments_stay(self):
        words, doubted = [0, 5, 7, 1], ["plain"]
        assert_new(self, lambda: doubtful_places(SOME, doubted, words))
        assert_new(self, lambda: copied_words(SOME, doubted, words))
        plain = copied_words(SOME, [], words)
        plain.append(3)
        self.assertEqual((words, doubted), ([0, 5, 7, 1], ["plain"]))


class CopiesOfAWorld(unittest.TestCase):
    def test_none_at_first(self):
        for meaning in (SOME, NONE):
            copies = Copies(meaning, ["plain"])
            self.assertEqual((copies.copied(), copies.closed()), ([], []))

    def test_wrong_names(self):
        for meaning in (SOME, NONE):
            for thing in ODD + ("inc", "oops", "tty", ("plain",), ["plain"], 0, "Plain"):
                for doubted in ([thing], ["plain", thing, "nope"], (thing, "nope")):
                    with self.assertRaises(UnknownName, msg=thing) as caught:
                        Copies(meaning, doubted)
                    self.assertIs(caught.exception.name, thing)
        Copies(SOME, NAMES + NAMES)

    def test_patched_with_a_stop_word(self):
        copies = Copies(SOME, ["plain"])
        self.assertEqual([copies.patch(frame) for frame in (5, 2, 11, 2)], [None] * 4)
        self.assertEqual((copies.copied(), copies.closed()), ([2, 5, 11], []))

    def test_patched_without_a_stop_word(self):
        copies = Copies(NONE, ["plain"])
        self.assertEqual([copies.patch(frame) for frame in (5, 2, 11, 2)], [None] * 4)
        self.assertEqual((copies.copied(), copies.closed()), ([], [2, 5, 11]))

    def test_ended(self):
        for meaning in (SOME, NONE):
            copies = Copies(meaning, [])
            for frame in (5, 2, 11):
                copies.patch(frame)
            self.assertEqual([copies.end(frame) for frame in (5, 5, 0)], [None] * 3)
            self.assertEqual(copies.copied() + copies.closed(), [2, 11])
            copies.patch(5)
            self.assertEqual(copies.copied() + copies.closed(), [2, 5, 11])

    def test_covered(self):
        for meaning in (SOME, NONE):
            copies = Copies(meaning, ["plain"])
            self.assertFalse(copies.is_covered(1, [1, 2, 3, 0]))
            self.assertFalse(copies.is_covered(1, (0,)))
            self.assertIs(copies.is_covered(1, [1, 2, 3]), True)
            copies.patch(1)
            self.assertIs(copies.is_covered(1, [1, 2, 3, 0]), True)
            self.assertIs(copies.is_covered(2, [1, 2, 3, 0]), False)
            copies.end(1)
            self.assertFalse(copies.is_covered(1, [1, 2, 3, 0]))

    def test_doubted_may_be_changed_afterwards(self):
        doubted = ["plain"]
        copies = Copies(SOME, doubted)
        doubted[0] = "later"
        self.assertEqual((copies.is_covered(0, [0]), copies.is_covered(0, [1])), (False, True))
        self.assertEqual(copies, Copies(SOME, ("plain",)))

    def test_twins_go_their_own_ways(self):
        for meaning in (SOME, NONE):
            copies = Copies(meaning, ["plain"])
            copies.patch(3)
            twin = copies.twin()
            self.assertIsInstance(twin, Copies)
            self.assertEqual((twin == copies, twin.copied() + twin.closed()), (True, [3]))
            self.assertFalse(twin.is_covered(0, [0]))
            twin.patch(4)
            copies.end(3)
            self.assertEqual((twin.copied() + twin.closed(), copies.copied() + copies.closed()), ([3, 4], []))

    def test_equality(self):
        def made(meaning=SOME, doubted=("plain", "later"), frames=(1, 2)):
            copies = Copies(meaning, doubted)
            for frame in frames:
                copies.patch(frame)
            return copies

        self.assertTrue(made() == made())
        self.assertFalse(made() != made())
        self.assertTrue(made(meaning=meaning_of(dict(CODE))) == made(doubted=["plain", "later"], frames=(2, 1, 1)))
        self.assertFalse(made() == made(doubted=["plain"]))
        self.assertFalse(made() == made(doubted=["later", "plain"]))
        self.assertFalse(made() == made(frames=(1,)))
        self.assertFalse(made() == made(frames=(1, 2, 3)))
        self.assertFalse(made() == made(frames=(1, 3)))
        self.assertFalse(made() == made(meaning=meaning_of({0: ("plain", (0,))})))
        self.assertFalse(made() == made(meaning=NONE))
        for thing in ODD + (SOME, [1, 2]):
            self.assertFalse(made() == thing)
            self.assertTrue(made() != thing)

    def test_lists_are_new(self):
        for meaning in (SOME, NONE):
            copies = Copies(meaning, [])
            copies.patch(3)
            for call in (copies.copied, copies.closed):
                assert_new(self, call)
                spoil(call())
            self.assertEqual(copies.copied() + copies.closed(), [3])


if __name__ == "__main__":
    unittest.main()
