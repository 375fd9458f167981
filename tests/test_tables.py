"""Translations: S2.2, S3.1 and S3.2."""

import unittest

from samples import one_book, one_meaning
from worldsalone.tables import frame_of, rights_at, table_cell, translated

MEANING = one_meaning(one_book(()))
# By frame 0, page 0 is frame 1 (rwx), page 1 is frame 2 (rw), page 2 is frame 2 (rw, for system), and page 3
# has an entry for frame 9. By frame 1, no page has an entry but 0. By frame 2, 1 has no right, 3 is for system.
FRAMES = [[1, 6, 3, 4], [2, 0, 8, 15], [0, 7, 0, 5]]
ALLOWED = {
    (0, True): ["rwx", "rw", "", ""],
    (0, False): ["rwx", "rw", "rw", ""],
    (1, True): ["r", "", "", ""],
    (1, False): ["r", "", "", ""],
    (2, True): ["", "", "", ""],
    (2, False): ["", "", "", "x"],
}
LED_TO = {0: [1, 2, 2, None], 1: [2, None, None, None], 2: [None, 2, None, 1]}


class Tables(unittest.TestCase):
    def test_cells(self):
        for page in range(4):
            for table in range(3):
                self.assertEqual(table_cell(MEANING, FRAMES, table, page), (table, page))
            for table in (3, 4, 15):
                self.assertIsNone(table_cell(MEANING, FRAMES, table, page))

    def test_frames(self):
        for table, frames in LED_TO.items():
            self.assertEqual([frame_of(MEANING, FRAMES, table, page) for page in range(4)], frames)
        for table in (3, 15):
            self.assertEqual([frame_of(MEANING, FRAMES, table, page) for page in range(4)], [None] * 4)

    def test_rights(self):
        for (table, is_user), rights in ALLOWED.items():
            told = [rights_at(MEANING, FRAMES, table, is_user, page) for page in range(4)]
            self.assertEqual(told, rights, (table, is_user))
        for is_user in (True, False):
            for table in (3, 15):
                self.assertEqual([rights_at(MEANING, FRAMES, table, is_user, page) for page in range(4)], [""] * 4)

    def test_translations(self):
        for (table, is_user), rights in ALLOWED.items():
            for address in range(16):
                for right in "rwx":
                    cell = (LED_TO[table][address // 4], address % 4) if right in rights[address // 4] else None
                    told = translated(MEANING, FRAMES, table, is_user, address, right)
                    self.assertEqual(told, cell, (table, is_user, address, right))

    def test_translations_without_a_table(self):
        for is_user in (True, False):
            for right in "rwx":
                self.assertIsNone(translated(MEANING, FRAMES, 3, is_user, 0, right))
                self.assertIsNone(translated(MEANING, FRAMES[:1], 1, is_user, 0, right))

    def test_frames_that_come_into_being(self):
        frames = FRAMES + [[0, 0, 0, 0]] * 6
        self.assertIsNone(frame_of(MEANING, frames, 0, 3))
        frames = FRAMES + [[0, 0, 0, 0]] * 7
        self.assertEqual(frame_of(MEANING, frames, 0, 3), 9)
        self.assertEqual(rights_at(MEANING, frames, 0, True, 3), "rwx")
        self.assertEqual(translated(MEANING, frames, 0, True, 14, "w"), (9, 2))
        self.assertEqual(table_cell(MEANING, frames, 9, 2), (9, 2))

    def test_tuples_in_place_of_lists(self):
        frames = tuple([tuple(frame) for frame in FRAMES])
        self.assertEqual(table_cell(MEANING, frames, 0, 1), (0, 1))
        self.assertEqual(frame_of(MEANING, frames, 0, 1), 2)
        self.assertEqual(rights_at(MEANING, frames, 0, True, 1), "rw")
        self.assertEqual(translated(MEANING, frames, 0, True, 5, "r"), (2, 1))

    def test_other_cells_change_nothing(self):
        for table in range(3):
            for page in range(4):
                for frame in range(3):
                    for place in range(4):
                        if (frame, place) != (table, page):
                            self.compare_with_change(table, page, frame, place)

    def compare_with_change(self, table, page, frame, place):
        for word in range(16):
            frames = [list(words) for words in FRAMES]
            frames[frame][place] = word
            self.assertEqual(frame_of(MEANING, frames, table, page), LED_TO[table][page])
            for is_user in (True, False):
                self.assertEqual(rights_at(MEANING, frames, table, is_user, page), ALLOWED[table, is_user][page])

    def test_the_cell_decides(self):
        frames = [[0, 0, 0, 0], [0, 0, 0, 0], [0, 0, 0, 0]]
        expected = {1: (1, "rwx", "rwx"), 2: (2, "r", "r"), 3: (2, "", "rw"), 4: (None, "", ""), 5: (1, "", "x")}
        expected.update({6: (2, "rw", "rw"), 7: (2, "", ""), 0: (None, "", ""), 8: (None, "", "")})
        for word, told in expected.items():
            frames[2][3] = word
            rights = (rights_at(MEANING, frames, 2, True, 3), rights_at(MEANING, frames, 2, False, 3))
            self.assertEqual((frame_of(MEANING, frames, 2, 3),) + rights, told)

    def test_nothing_passed_is_changed(self):
        frames = [list(words) for words in FRAMES]
        translated(MEANING, frames, 0, True, 5, "r")
        rights_at(MEANING, frames, 0, True, 1)
        frame_of(MEANING, frames, 0, 1)
        table_cell(MEANING, frames, 0, 1)
        self.assertEqual(frames, FRAMES)


if __name__ == "__main__":
    unittest.main()
