import copy
import inspect
import unittest

from oracles import ByColumns, all_pictures, least_rows
from quiltyard.counting import how_many, number_of, picture_of
from quiltyard.errors import BadPicture, BadSize, BadSystem
from quiltyard.letting import lets
from quiltyard.pictures import columns_of
from quiltyard.systems import of_pictures
from samples import (GOOD, all_sizes, bad_pictures, bad_systems, every_tile, picture_of_size, some_tiles,
                     system_of_rows, system_with_full_column)

LONG = 10 ** 15 - 1
BAD_SIDES = [0, -1, LONG, -LONG]


def by_digits(letters, high, wide, number):
    """The picture of a number where every picture of the letters is let by."""
    fields = []
    for k in range(high * wide):
        fields.append(letters[number % len(letters)])
        number //= len(letters)
    fields = fields[::-1]
    return ["".join(fields[row::high]) for row in range(high)]


class SmallSizes(unittest.TestCase):
    """[3.1]: all pictures of a size, those that are let by told one by one."""

    def assert_told(self, system, high, wide, due, others):
        """Due are all pictures that are let by, in their order."""
        self.assertEqual(how_many(system, high, wide), len(due), system)
        for number, picture in enumerate(due):
            self.assertEqual(picture_of(system, high, wide, number), picture, system)
            self.assertEqual(number_of(system, picture), number, system)
        for picture in others:
            self.assertIsNone(number_of(system, picture), system)
        for number in [-1, len(due), len(due) + 1, LONG, -LONG]:
            self.assertRaises(BadSize, picture_of, system, high, wide, number)

    def assert_size(self, system, high, wide, letters="ab"):
        known = least_rows(system, high, wide)
        pictures = sorted(all_pictures(letters, high, wide), key=columns_of)
        due = [picture for picture in pictures if tuple(picture) in known]
        self.assertEqual(len(due), len(known))
        self.assert_told(system, high, wide, due, [picture for picture in pictures if picture not in due])
        return len(due)

    def test_arguments(self):
        self.assertEqual(list(inspect.signature(how_many).parameters), ["system", "high", "wide"])
        self.assertEqual(list(inspect.signature(picture_of).parameters), ["system", "high", "wide", "number"])
        self.assertEqual(list(inspect.signature(number_of).parameters), ["system", "picture"])

    def test_order_is_by_columns_by_hand(self):
        system = of_pictures([["ab", "ab"], ["aa", "bb"]])
        self.assertLess(["aa", "bb"], ["ab", "ab"])
        self.assertLess(columns_of(["ab", "ab"]), columns_of(["aa", "bb"]))
        self.assertEqual(how_many(system, 2, 2), 2)
        self.assertEqual(picture_of(system, 2, 2, 0), ["ab", "ab"])
        self.assertEqual(picture_of(system, 2, 2, 1), ["aa", "bb"])
        self.assertEqual(number_of(system, ["ab", "ab"]), 0)
        self.assertEqual(number_of(system, ["aa", "bb"]), 1)
        self.assertIsNone(number_of(system, ["aa", "aa"]))

    def test_up_to_three_marks_against_all_rows_of_marks(self):
        some = 0
        for letters in ["", "a", "b", "aa", "ab", "ba", "aab", "bab", "bba", "bbb"]:
            for turn, share in enumerate([40, 70, 100]):
                for edge_share in [80, 100]:
                    system = (letters, some_tiles(len(letters), share, turn + 31, edge_share))
                    for high, wide in [(1, 1), (1, 3), (2, 1), (2, 2), (3, 1), (4, 1)]:
                        some += self.assert_size(system, high, wide)
        self.assertGreater(some, 400)

    def test_larger_sizes_against_all_rows_of_marks(self):
        some = 0
        for letters, high, wide, share in [("aab", 1, 6, 70), ("aba", 2, 3, 60), ("bab", 3, 2, 60), ("ab", 1, 9, 80),
                                           ("ab", 2, 4, 80), ("ba", 3, 3, 85), ("ab", 4, 2, 80), ("ab", 3, 4, 60)]:
            some += self.assert_size((letters, some_tiles(len(letters), share, wide)), high, wide)
        self.assertGreater(some, 200)

    def test_four_letters_against_all_rows_of_marks(self):
        for letters in ["abcd", "dcba", "cabd"]:
            self.assert_size((letters, some_tiles(4, 70, 3)), 2, 2, "abcd")
            self.assert_size((letters, some_tiles(4, 50, 4, 80)), 1, 4, "abcd")
            self.assert_size((letters, some_tiles(4, 60, 5, 80)), 3, 1, "abcd")

    def test_each_picture_once_however_many_rows_of_marks_show_it(self):
        for letters in ["aa", "aaa", "a" * 16]:
            system = (letters, every_tile(len(letters)))
            for high, wide in [(1, 1), (1, 12), (2, 3), (4, 12)]:
                self.assert_told(system, high, wide, [["a" * wide] * high], [["b" * wide] * high])
        self.assert_told(("abab", every_tile(4)), 2, 2, all_pictures("ab", 2, 2), [["ac", "aa"], ["dd", "dd"]])

    def test_three_rows_and_four_columns_of_a_chosen_column(self):
        system = system_with_full_column()
        pictures = all_pictures("ab", 3, 4)
        due = [picture for picture in pictures if "aaa" in columns_of(picture)]
        self.assertEqual(how_many(system, 3, 4), len(due))
        for number in list(range(0, len(due), 61)) + [len(due) - 1]:
            self.assertEqual(picture_of(system, 3, 4, number), due[number])
            self.assertEqual(number_of(system, due[number]), number)
        for picture in pictures[::61]:
            self.assertEqual(number_of(system, picture) is None, picture not in due)

    def test_none_at_all(self):
        for system in [("", []), ("", [(-1, -1, -1, -1)]), ("a", []), ("abcd" * 4, [])]:
            for high, wide in [(1, 1), (2, 3), (4, 12)]:
                self.assert_told(system, high, wide, [], [picture_of_size(high, wide)])

    def test_letter_that_no_mark_has(self):
        for high, wide in all_sizes():
            for letter in "bd":
                picture = ["a" * wide] * (high - 1) + ["a" * (wide - 1) + letter]
                self.assertIsNone(number_of(("ac", every_tile(2)), picture))


class LargeSizes(unittest.TestCase):
    """[3.1]: up to 4 high and 12 wide."""

    def assert_back_and_forth(self, system, high, wide, total):
        pictures = []
        numbers = sorted({number for number in [0, 1, total // 3, total // 2, LONG, total - 2, total - 1]
                          if 0 <= number < total})
        for number in numbers:
            picture = picture_of(system, high, wide, number)
            self.assertEqual([len(row) for row in picture], [wide] * high)
            self.assertEqual(number_of(system, picture), number)
            self.assertIsNotNone(lets(system, picture))
            pictures.append(columns_of(picture))
        self.assertEqual(pictures, sorted(pictures))
        self.assertRaises(BadSize, picture_of, system, high, wide, total)
        self.assertRaises(BadSize, picture_of, system, high, wide, -1)

    def test_every_size_where_all_tiles_are_there(self):
        for letters in ["abcd", "bd", "cac"]:
            system = (letters, every_tile(len(letters)))
            signs = sorted(set(letters))
            for high, wide in all_sizes():
                total = len(signs) ** (high * wide)
                self.assertEqual(how_many(system, high, wide), total)
                number = total * 5 // 7
                self.assertEqual(picture_of(system, high, wide, number), by_digits(signs, high, wide, number))
                self.assertEqual(number_of(system, by_digits(signs, high, wide, number)), number)

    def test_four_letters_and_all_tiles(self):
        system = ("abcd", every_tile(4))
        self.assertEqual(how_many(system, 4, 12), 4 ** 48)
        self.assert_back_and_forth(system, 4, 12, 4 ** 48)
        for number in [0, 1, 4 ** 48 - 1, 4 ** 47, LONG, 4 ** 48 * 3 // 11]:
            self.assertEqual(picture_of(system, 4, 12, number), by_digits("abcd", 4, 12, number))

    def test_sixteen_marks_and_all_tiles(self):
        system = ("abcd" * 4, every_tile(16))
        self.assertEqual(how_many(system, 4, 12), 4 ** 48)
        number = 4 ** 48 * 3 // 11
        picture = by_digits("abcd", 4, 12, number)
        self.assertEqual(picture_of(system, 4, 12, number), picture)
        self.assertEqual(number_of(system, picture), number)
        self.assertRaises(BadSize, picture_of, system, 4, 12, 4 ** 48)

    def test_few_tiles(self):
        # Of each row of two letters by turns, that begins with either, each row is like the one two rows ahead.
        turns = [["abababababab"[k:] + "ab"[:k], "babababababa"[k:] + "ba"[:k]] * 2 for k in range(2)]
        system = of_pictures(turns)
        self.assertEqual(how_many(system, 4, 12), 2)
        self.assertEqual([picture_of(system, 4, 12, number) for number in range(2)], turns)
        self.assertEqual([number_of(system, picture) for picture in turns], [0, 1])
        self.assertIsNone(number_of(system, ["a" * 12] * 4))
        self.assert_back_and_forth(system, 4, 12, 2)

    def test_tiles_of_pictures(self):
        for pictures in [[picture_of_size(4, 12)], [picture_of_size(4, 12, turn) for turn in range(4)]]:
            system = of_pictures(pictures)
            total = ByColumns(system, 4).count(12)
            self.assertEqual(how_many(system, 4, 12), total)
            self.assert_back_and_forth(system, 4, 12, total)
            for picture in pictures:
                self.assertEqual(picture_of(system, 4, 12, number_of(system, picture)), picture)

    def test_several_marks_for_a_letter(self):
        for letters, share, turn in [("aab", 35, 1), ("aab", 60, 2), ("abab", 25, 3), ("aabb", 95, 4)]:
            system = (letters, some_tiles(len(letters), share, turn))
            for high, wide in [(2, 12), (4, 12)]:
                total = ByColumns(system, high).count(wide)
                self.assertGreater(total, 100)
                self.assertEqual(how_many(system, high, wide), total)
                self.assert_back_and_forth(system, high, wide, total)

    def rank_with_full_column(self, picture):
        """Its number among the pictures of a and b with some column of a alone, by plain counting."""
        high = len(picture)
        full = 2 ** high
        rank = 0
        seen = False
        columns = columns_of(picture)
        for place, column in enumerate(columns):
            left = len(columns) - place - 1
            digit = int(column.replace("a", "0").replace("b", "1"), 2)
            for lesser in range(digit):
                rank += full ** left - (0 if seen or lesser == 0 else (full - 1) ** left)
            seen = seen or digit == 0
        return rank if seen else None

    def test_some_column_of_one_letter(self):
        system = system_with_full_column()
        for high, wide in all_sizes():
            self.assertEqual(how_many(system, high, wide), 2 ** (high * wide) - (2 ** high - 1) ** wide)
        total = 16 ** 12 - 15 ** 12
        self.assert_back_and_forth(system, 4, 12, total)
        for number in [total // 7, total // 2, total * 9 // 10, total - 1]:
            self.assertEqual(self.rank_with_full_column(picture_of(system, 4, 12, number)), number)
        for turn in range(4):
            picture = [row.replace("c", "a").replace("d", "b") for row in picture_of_size(4, 12, turn)]
            for chosen in [picture, [row[:5] + "a" + row[6:] for row in picture], ["b" * 12] * 4]:
                self.assertEqual(number_of(system, chosen), self.rank_with_full_column(chosen))

    def test_marks_that_rise(self):
        rows = [[r + c for c in range(12)] for r in range(4)]
        system = system_of_rows("a" * 16, rows)
        for high, wide in all_sizes():
            # Only the corner of 0 begins, only that of 14 ends.
            self.assertEqual(how_many(system, high, wide), 1 if (high, wide) == (4, 12) else 0)


class Refused(unittest.TestCase):
    """[3.1] and the interface's last sentence."""

    FINE = ("aab", every_tile(3))

    def test_sizes(self):
        for high in BAD_SIDES + [5]:
            for wide in [1, 12] + BAD_SIDES + [13]:
                self.assertRaises(BadSize, how_many, self.FINE, high, wide)
                self.assertRaises(BadSize, picture_of, self.FINE, high, wide, 0)
        for wide in BAD_SIDES + [13]:
            for high in [1, 4]:
                self.assertRaises(BadSize, how_many, self.FINE, high, wide)
                self.assertRaises(BadSize, picture_of, self.FINE, high, wide, 0)
        self.assertRaises(BadSize, how_many, ("", []), 5, 1)
        self.assertRaises(BadSize, how_many, ("", []), 1, 13)

    def test_numbers(self):
        for high, wide in [(1, 1), (2, 3), (3, 4)]:
            total = 2 ** (high * wide)
            for number in [-1, -2, -total, total, total + 1, LONG, -LONG]:
                self.assertRaises(BadSize, picture_of, self.FINE, high, wide, number)
            self.assertEqual(picture_of(self.FINE, high, wide, 0), ["a" * wide] * high)
            self.assertEqual(picture_of(self.FINE, high, wide, total - 1), ["b" * wide] * high)

    def test_any_number_where_there_is_no_picture(self):
        for system in [("", []), ("ab", []), ("ab", [tile for tile in every_tile(2) if tile[3] != -1])]:
            for number in [0, 1, -1, LONG, -LONG]:
                self.assertRaises(BadSize, picture_of, system, 2, 2, number)

    def test_pictures(self):
        for name, picture in bad_pictures():
            with self.subTest(name):
                self.assertRaises(BadPicture, number_of, self.FINE, picture)
                self.assertRaises(BadPicture, number_of, ("", []), picture)

    def test_systems_first(self):
        for name, system in bad_systems():
            with self.subTest(name):
                for picture in [GOOD, ["aX"], [], picture_of_size(5, 13)]:
                    self.assertRaises(BadSystem, number_of, system, picture)
                for high, wide in [(1, 1), (5, 1), (1, 13), (0, 0), (LONG, LONG)]:
                    self.assertRaises(BadSystem, how_many, system, high, wide)
                    for number in [0, -1, LONG]:
                        self.assertRaises(BadSystem, picture_of, system, high, wide, number)


class Stays(unittest.TestCase):
    """[0.1]"""

    def test_what_was_handed_in_stays(self):
        system = ("aab", every_tile(3))
        picture = ["ab", "ba"]
        handed = (system, picture)
        before = copy.deepcopy(handed)
        for call in [lambda: how_many(system, 2, 3), lambda: picture_of(system, 2, 3, 5),
                     lambda: number_of(system, picture), lambda: number_of(system, ["ac"])]:
            call()
            self.assertEqual(handed, before)

    def test_answers_do_not_hang_on_what_was_asked_ahead(self):
        letters, tiles = ("aab", list(every_tile(3)))
        self.assertEqual(how_many((letters, tiles), 1, 2), 4)
        tiles.clear()
        self.assertEqual(how_many((letters, tiles), 1, 2), 0)
        self.assertIsNone(number_of((letters, tiles), ["ab"]))

    def test_lists_are_new(self):
        system = ("ab", every_tile(2))
        first = picture_of(system, 2, 2, 6)
        self.assertEqual(first, ["ab", "ba"])
        first[0] = "bb"
        first.append("aa")
        self.assertEqual(picture_of(system, 2, 2, 6), ["ab", "ba"])


if __name__ == "__main__":
    unittest.main()
