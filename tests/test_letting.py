import copy
import inspect
import itertools
import unittest

from oracles import ByColumns, all_pictures, columns_of_rows, least_rows
from quiltyard.errors import BadPicture, BadSystem
from quiltyard.letting import lets
from quiltyard.systems import shows
from samples import (GOOD, all_sizes, bad_pictures, bad_systems, every_tile, picture_of_size, some_tiles,
                     system_of_rows, system_with_full_column)


class Lets(unittest.TestCase):
    """[0.2], [2.2], [2.3]: the least rows of marks."""

    def assert_all_pictures(self, system, high, wide, letters="ab"):
        """Every picture of a size, against all rows of marks gone through one by one."""
        due = least_rows(system, high, wide)
        for picture in all_pictures(letters, high, wide):
            told = lets(system, picture)
            self.assertEqual(told, due.get(tuple(picture)), (system, picture))
            if told is not None:
                self.assertIs(shows(system, picture, told), True)
        return len(due)

    def test_arguments(self):
        self.assertEqual(list(inspect.signature(lets).parameters), ["system", "picture"])

    def test_one_field_by_hand(self):
        tiles = [(-1, -1, -1, 0), (-1, -1, 0, -1), (-1, 0, -1, -1), (0, -1, -1, -1)]
        self.assertEqual(lets(("a", tiles), ["a"]), [[0]])
        self.assertIsNone(lets(("b", tiles), ["a"]))
        self.assertIsNone(lets(("a", tiles), ["aa"]))
        self.assertIsNone(lets(("a", tiles), ["a", "a"]))
        for k in range(4):
            self.assertIsNone(lets(("a", tiles[:k] + tiles[k + 1:]), ["a"]))

    def test_columns_come_first_by_hand(self):
        # By rows the first one would be the least, by columns the second one is.
        by_rows = [[0, 1], [1, 1]]
        by_columns = [[0, 2], [0, 3]]
        system = system_of_rows("aaaa", by_rows, by_columns)
        self.assertLess(by_rows, by_columns)
        self.assertLess(columns_of_rows(by_columns), columns_of_rows(by_rows))
        self.assertEqual(lets(system, ["aa", "aa"]), by_columns)

    def test_least_field_that_leads_nowhere_is_passed_over(self):
        # Mark 0 may stand first and be followed, but only mark 1 gets to the right border.
        row = [[1, 1, 2]]
        letters, tiles = system_of_rows("aab", row)
        more = [(-1, -1, -1, 0), (-1, 0, -1, -1), (-1, -1, 0, 0), (0, 0, -1, -1)]
        self.assertEqual(lets((letters, sorted(tiles + more)), ["aab"]), row)

    def test_systems_of_no_mark(self):
        for tiles in [[], [(-1, -1, -1, -1)]]:
            for high, wide in all_sizes():
                self.assertIsNone(lets(("", tiles), picture_of_size(high, wide)))

    def test_systems_of_one_mark(self):
        whole = every_tile(1)
        for high, wide in all_sizes():
            self.assertEqual(lets(("c", whole), ["c" * wide] * high), [[0] * wide] * high)
            self.assertIsNone(lets(("c", whole), ["c" * (wide - 1) + "a"] * high))
            used = {tile for tile in system_of_rows("c", [[0] * wide] * high)[1]}
            for missing in whole:
                left = ("c", [tile for tile in whole if tile != missing])
                due = None if missing in used else [[0] * wide] * high
                self.assertEqual(lets(left, ["c" * wide] * high), due)

    def test_up_to_three_marks_against_all_rows_of_marks(self):
        some = 0
        for letters in ["a", "aa", "ab", "ba", "aaa", "aab", "aba", "bab", "bba"]:
            for turn, share in enumerate([30, 55, 80, 100]):
                for edge_share in [75, 100]:
                    system = (letters, some_tiles(len(letters), share, turn + 1, edge_share))
                    for high, wide in [(1, 1), (1, 2), (1, 4), (2, 1), (2, 2), (3, 1), (4, 1)]:
                        some += self.assert_all_pictures(system, high, wide)
        self.assertGreater(some, 500)

    def test_larger_sizes_against_all_rows_of_marks(self):
        some = 0
        for turn, share in enumerate([60, 85]):
            for letters, high, wide in [("aab", 1, 6), ("aba", 2, 3), ("bab", 3, 2), ("aab", 4, 1), ("aa", 1, 12),
                                        ("ab", 1, 8), ("aa", 2, 5), ("ab", 2, 4), ("ba", 4, 2), ("aa", 3, 3),
                                        ("ab", 3, 3), ("aa", 4, 3), ("aa", 3, 4)]:
                system = (letters, some_tiles(len(letters), share, turn + 11))
                some += self.assert_all_pictures(system, high, wide)
        self.assertGreater(some, 500)

    def test_every_size_against_columns_written_out(self):
        found = {None: 0}
        for turn, letters in enumerate(["ab", "aab", "abba"]):
            for share in [70, 90]:
                system = (letters, some_tiles(len(letters), share, turn + 21))
                for high, wide in all_sizes():
                    picture = [row.replace("c", "a").replace("d", "b") for row in picture_of_size(high, wide, turn)]
                    due = ByColumns(system, high).lets(picture)
                    told = lets(system, picture)
                    self.assertEqual(told, due, (letters, share, picture))
                    found[None] += told is None
                    found[letters] = found.get(letters, 0) + (told is not None)
        self.assertGreater(min(found.values()), 10)
        self.assertEqual(len(found), 4)

    def test_sixteen_marks_for_four_letters(self):
        letters = "abcd" * 4
        picture = picture_of_size(4, 12)
        # All tiles: the least mark for each letter will do.
        due = [["abcd".index(letter) for letter in row] for row in picture]
        self.assertEqual(lets((letters, every_tile(16)), picture), due)
        # Those of some rows alone.
        rows = [[4 * ((r + c) % 4) + "abcd".index(picture[r][c]) for c in range(12)] for r in range(4)]
        system = system_of_rows(letters, rows)
        self.assertEqual(lets(system, picture), ByColumns(system, 4).lets(picture))
        self.assertIs(shows(system, picture, lets(system, picture)), True)

    def test_sixteen_marks_of_some_tiles(self):
        told = []
        for share in [1, 4, 12, 30]:
            system = ("abcd" * 4, some_tiles(16, share, share))
            for high, wide in [(1, 12), (2, 7), (3, 3)]:
                picture = picture_of_size(high, wide, share)
                told.append(lets(system, picture))
                self.assertEqual(told[-1], ByColumns(system, high).lets(picture), (share, picture))
        self.assertIn(None, told)
        self.assertGreater(len([rows for rows in told if rows]), 3)

    def test_sixteen_marks_against_all_rows_of_marks(self):
        some = 0
        for letters in ["a" * 16, "ab" * 8, "aabbabab" * 2]:
            grids = [[[(turn * turn + 3 * r + c * (turn + 1)) % 16 for c in range(wide)] for r in range(high)]
                     for turn in range(6) for high, wide in [(1, 1), (1, 2), (1, 3), (2, 1), (3, 1), (2, 2)]]
            system = system_of_rows(letters, *grids)
            for high, wide in [(1, 1), (1, 2), (1, 3), (2, 1), (3, 1)]:
                some += self.assert_all_pictures(system, high, wide)
        self.assertGreater(some, 20)

    def test_sixteen_marks_for_one_letter(self):
        picture = ["a" * 12] * 4
        self.assertEqual(lets(("a" * 16, every_tile(16)), picture), [[0] * 12] * 4)
        # No tile lets a row come to its end, so that every column is tried in vain.
        endless = [tile for tile in every_tile(16) if tile[0] == -1 or tile[1] != -1]
        self.assertIsNone(lets(("a" * 16, endless), picture))
        # Marks that have to rise by one from column to column, and from row to row.
        rows = [[r + c for c in range(12)] for r in range(4)]
        self.assertEqual(lets(system_of_rows("a" * 16, rows), picture), rows)
        self.assertIsNone(lets(system_of_rows("a" * 16, rows), picture[1:]))

    def test_some_column_of_one_letter(self):
        system = system_with_full_column()
        self.assertEqual(lets(system, ["aba", "aba"]), [[0, 1, 2], [0, 1, 2]])
        self.assertEqual(lets(system, ["aab", "abb"]), [[2, 3, 4], [2, 4, 4]])
        self.assertIsNone(lets(system, ["ab", "ba"]))
        for fields in itertools.product("ab", repeat=8):
            picture = ["".join(fields[:4]), "".join(fields[4:])]
            full = ("a", "a") in list(zip(*picture))
            self.assertEqual(lets(system, picture) is not None, full)

    def test_letter_that_no_mark_has(self):
        for high, wide in all_sizes():
            for letter in "cd":
                picture = ["a" * wide] * (high - 1) + ["a" * (wide - 1) + letter]
                self.assertIsNone(lets(("ab", every_tile(2)), picture))
            self.assertEqual(lets(("ab", every_tile(2)), ["b" * wide] * high), [[1] * wide] * high)

    def test_refused_in_turn(self):
        fine = ("aab", every_tile(3))
        for name, picture in bad_pictures():
            with self.subTest(name):
                self.assertRaises(BadPicture, lets, fine, picture)
                self.assertRaises(BadPicture, lets, ("", []), picture)
        for name, system in bad_systems():
            with self.subTest(name):
                for picture in [GOOD, ["aX"], [], picture_of_size(5, 13)]:
                    self.assertRaises(BadSystem, lets, system, picture)

    def test_what_was_handed_in_stays(self):
        for picture in [["ab", "ba"], ["ac"], ["a"]]:
            handed = (("aab", every_tile(3)), list(picture))
            before = copy.deepcopy(handed)
            lets(*handed)
            self.assertEqual(handed, before)

    def test_lists_are_new(self):
        system = ("a", every_tile(1))
        picture = ["aa", "aa"]
        first = lets(system, picture)
        first[0][0] = 7
        self.assertEqual(first, [[7, 0], [0, 0]])
        first.append([])
        self.assertEqual(lets(system, picture), [[0, 0], [0, 0]])
        self.assertEqual((system, picture), (("a", every_tile(1)), ["aa", "aa"]))


if __name__ == "__main__":
    unittest.main()
