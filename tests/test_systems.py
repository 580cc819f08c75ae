import copy
import inspect
import itertools
import unittest

from quiltyard.errors import BadPicture, BadSystem
from quiltyard.letting import lets
from quiltyard.systems import look_system, of_pictures, shows
from samples import (GOOD, all_sizes, bad_pictures, bad_systems, every_tile, picture_of_size, system_of_rows,
                     tiles_by_place)


class LookSystem(unittest.TestCase):
    """[2.1]"""

    def test_arguments(self):
        self.assertEqual(list(inspect.signature(look_system).parameters), ["system"])
        self.assertEqual(list(inspect.signature(of_pictures).parameters), ["pictures"])
        self.assertEqual(list(inspect.signature(shows).parameters), ["system", "picture", "rows"])

    def test_systems_of_0_to_16_marks(self):
        for marks in range(17):
            letters = ("abcd" * 4)[:marks]
            self.assertIsNone(look_system((letters, [])))
            self.assertIsNone(look_system((letters, [(-1, -1, -1, -1)])))
            fields = sorted({-1, marks - 1})
            tiles = sorted(itertools.product(fields, repeat=4))
            self.assertIsNone(look_system((letters, tiles)))

    def test_each_letter_may_stand_for_a_mark(self):
        for letter in "abcd":
            self.assertIsNone(look_system((letter * 16, [])))

    def test_all_tiles_of_two_marks(self):
        self.assertIsNone(look_system(("dd", every_tile(2))))

    def test_mark_beyond_the_last_at_each_number_of_marks(self):
        for marks in range(17):
            letters = ("dcba" * 4)[:marks]
            for place in range(4):
                tile = (-1,) * place + (marks,) + (-1,) * (3 - place)
                self.assertRaises(BadSystem, look_system, (letters, [tile]))

    def test_rising_is_that_of_tuples(self):
        low = (0, 0, 0, 0)
        for place in range(4):
            high = (0,) * place + (1,) + (-1,) * (3 - place)
            self.assertIsNone(look_system(("ab", [low, high])))
            self.assertRaises(BadSystem, look_system, ("ab", [high, low]))

    def test_what_is_no_system(self):
        for name, system in bad_systems():
            with self.subTest(name):
                self.assertRaises(BadSystem, look_system, system)

    def test_not_two_of_them(self):
        self.assertRaises(BadSystem, look_system, ("ab",))
        self.assertRaises(BadSystem, look_system, ("ab", [], []))

    def test_what_was_handed_in_stays(self):
        for name, system in bad_systems() + [("all tiles", ("ab", every_tile(2)))]:
            before = copy.deepcopy(system)
            try:
                look_system(system)
            except BadSystem:
                pass
            self.assertEqual(system, before, name)


class Shows(unittest.TestCase):
    """[2.2]"""

    # Nine marks that all differ give sixteen tiles that all differ.
    LETTERS = "abcadbdca"
    PICTURE = ["abc", "adb", "dca"]
    ROWS = [[0, 1, 2], [3, 4, 5], [6, 7, 8]]

    def test_rows_that_show(self):
        self.assertIs(shows(system_of_rows(self.LETTERS, self.ROWS), self.PICTURE, self.ROWS), True)
        for high, wide in all_sizes():
            picture = picture_of_size(high, wide)
            rows = [[4 * ((r + c) % 4) + "abcd".index(picture[r][c]) for c in range(wide)] for r in range(high)]
            self.assertIs(shows(system_of_rows("abcd" * 4, rows), picture, rows), True)

    def test_one_field_by_hand(self):
        tiles = [(-1, -1, -1, 0), (-1, -1, 0, -1), (-1, 0, -1, -1), (0, -1, -1, -1)]
        self.assertIs(shows(("a", tiles), ["a"], [[0]]), True)
        self.assertIs(shows(("b", tiles), ["a"], [[0]]), False)
        self.assertIs(shows(("", []), ["a"], [[0]]), False)
        for k in range(4):
            self.assertIs(shows(("a", tiles[:k] + tiles[k + 1:]), ["a"], [[0]]), False)

    def test_no_tiles_at_all(self):
        self.assertIs(shows((self.LETTERS, []), self.PICTURE, self.ROWS), False)

    def test_each_tile_missing(self):
        letters, tiles = system_of_rows(self.LETTERS, self.ROWS)
        by_place = tiles_by_place(self.ROWS)
        self.assertEqual(len(tiles), 16)
        for place, missing in by_place.items():
            with self.subTest("missing", place=place):
                left = [tile for tile in tiles if tile != missing]
                self.assertIs(shows((letters, left), self.PICTURE, self.ROWS), False)

    def test_tiles_beyond_those_asked_do_no_harm(self):
        letters = "aab"
        for row in itertools.product(range(2), repeat=3):
            self.assertIs(shows((letters, every_tile(3)), ["aaa"], [list(row)]), True)

    def test_one_mark_changed(self):
        numbers = list(range(-19, 20)) + [10 ** 15 - 1, -10 ** 15 + 1]
        system = system_of_rows(self.LETTERS, self.ROWS)
        for r in range(3):
            for c in range(3):
                for number in numbers:
                    rows = copy.deepcopy(self.ROWS)
                    rows[r][c] = number
                    self.assertIs(shows(system, self.PICTURE, rows), rows == self.ROWS, rows)

    def test_one_mark_changed_where_all_tiles_are_there(self):
        # Just the letters decide here, as every tile of marks and border is one.
        system = ("aba", every_tile(3))
        for c in range(3):
            for number in list(range(-6, 7)) + [10 ** 15 - 1, -10 ** 15 + 1]:
                rows = [[0, 1, 2], [1, 0, 1]]
                rows[0][c] = number
                fits = number == 1 if c == 1 else number in (0, 2)
                self.assertIs(shows(system, ["aba", "bab"], rows), fits, rows)

    def test_rows_of_another_size(self):
        # Every tile of one mark and border is there, so just the size decides.
        system = ("a", every_tile(1))
        for high, wide in all_sizes():
            picture = ["a" * wide] * high
            self.assertIs(shows(system, picture, [[0] * wide for r in range(high)]), True)
            for other_high in range(6):
                for other_wide in range(14):
                    if (other_high, other_wide) != (high, wide):
                        rows = [[0] * other_wide for r in range(other_high)]
                        self.assertIs(shows(system, picture, rows), False)

    def test_one_row_of_another_length(self):
        system = ("a", every_tile(1))
        for k in range(3):
            for length in [0, 1, 3, 4, 12]:
                rows = [[0, 0], [0, 0], [0, 0]]
                rows[k] = [0] * length
                self.assertIs(shows(system, ["aa", "aa", "aa"], rows), False)

    def test_border_written_as_rows_does_not_count(self):
        system = ("a", every_tile(1))
        self.assertIs(shows(system, ["a"], [[-1, -1, -1], [-1, 0, -1], [-1, -1, -1]]), False)
        self.assertIs(shows(system, ["a"], [[-1]]), False)

    def test_all_rows_of_small_sizes(self):
        letters = "aba"
        grids = [[[0, 1], [1, 2]], [[2, 2], [2, 2]], [[0, 1, 0, 1], [1, 2, 1, 2]]]
        letters, tiles = system_of_rows(letters, *grids)
        for high, wide in [(1, 1), (1, 3), (2, 2), (2, 3), (3, 2)]:
            for marks in itertools.product(range(-1, 4), repeat=high * wide):
                rows = [list(marks[r * wide:(r + 1) * wide]) for r in range(high)]
                picture = ["".join("aabaa"[mark + 1] for mark in row) for row in rows]
                due = all(0 <= mark < 3 for mark in marks) and set(tiles_by_place(rows).values()) <= set(tiles)
                self.assertIs(shows((letters, tiles), picture, rows), due)

    def test_refused_in_turn(self):
        fine = ("a", every_tile(1))
        for name, picture in bad_pictures():
            with self.subTest(name):
                rows = [[0] * len(row) for row in picture]
                self.assertRaises(BadPicture, shows, fine, picture, rows)
                self.assertRaises(BadPicture, shows, fine, picture, [])
        for name, system in bad_systems():
            with self.subTest(name):
                self.assertRaises(BadSystem, shows, system, GOOD, [])
                self.assertRaises(BadSystem, shows, system, GOOD, [[0, 1, 2], [0, 2, 1]])
                self.assertRaises(BadSystem, shows, system, ["aX"], [])
                self.assertRaises(BadSystem, shows, system, [], [])

    def test_what_was_handed_in_stays(self):
        for rows in [self.ROWS, [[0, 1, 2], [3, 4, -1], [6, 7, 8]], [], [[], [0]]]:
            handed = (system_of_rows(self.LETTERS, self.ROWS), list(self.PICTURE), copy.deepcopy(rows))
            before = copy.deepcopy(handed)
            shows(*handed)
            self.assertEqual(handed, before)


class OfPictures(unittest.TestCase):
    """[2.3], of pictures."""

    def marks(self, picture):
        return [["abcd".index(letter) for letter in row] for row in picture]

    def assert_system(self, pictures):
        told = of_pictures(pictures)
        self.assertIsInstance(told, tuple)
        self.assertIsInstance(told[1], list)
        self.assertEqual(told, system_of_rows("abcd", *[self.marks(picture) for picture in pictures]))
        self.assertIsNone(look_system(told))
        for picture in pictures:
            self.assertIs(shows(told, picture, self.marks(picture)), True)

    def test_of_none(self):
        self.assertEqual(of_pictures([]), ("abcd", []))

    def test_of_one_by_hand(self):
        self.assertEqual(of_pictures([["c"]]), ("abcd", [(-1, -1, -1, 2), (-1, -1, 2, -1), (-1, 2, -1, -1),
                                                         (2, -1, -1, -1)]))
        self.assertEqual(of_pictures([["ad"]]), ("abcd", [(-1, -1, -1, 0), (-1, -1, 0, 3), (-1, -1, 3, -1),
                                                          (-1, 0, -1, -1), (0, 3, -1, -1), (3, -1, -1, -1)]))

    def test_of_one_of_every_size(self):
        for high, wide in all_sizes():
            self.assert_system([picture_of_size(high, wide)])

    def test_of_several(self):
        self.assert_system([["ab"], ["ba"]])
        self.assert_system([["dd", "dd"], ["a"], ["dd", "dd"]])
        self.assert_system([picture_of_size(high, wide, high) for high, wide in all_sizes()])

    def test_order_of_pictures_does_not_matter(self):
        pictures = [["ab", "cd"], ["d"], ["bca"], ["a", "a", "b"]]
        for order in itertools.permutations(pictures):
            self.assertEqual(of_pictures(list(order)), of_pictures(pictures))

    def assert_no_tile_to_spare(self, pictures):
        letters, tiles = of_pictures(pictures)
        for picture in pictures:
            self.assertEqual(lets((letters, tiles), picture), self.marks(picture))
        for missing in tiles:
            left = (letters, [tile for tile in tiles if tile != missing])
            self.assertIn(None, [lets(left, picture) for picture in pictures])
            self.assertIn(False, [shows(left, picture, self.marks(picture)) for picture in pictures])

    def test_each_is_let_by_and_no_tile_can_be_spared(self):
        self.assert_no_tile_to_spare([["ab", "cd"], ["dab"]])
        self.assert_no_tile_to_spare([["a"], ["b"], ["c"], ["d"]])
        self.assert_no_tile_to_spare([["aaaa", "aaaa"], ["a", "a", "a"], ["aba"]])
        self.assert_no_tile_to_spare([picture_of_size(4, 12), picture_of_size(3, 5, 2)])
        for high, wide in all_sizes():
            if high * wide <= 12:
                self.assert_no_tile_to_spare([picture_of_size(high, wide)])

    def test_refused(self):
        for name, picture in bad_pictures():
            with self.subTest(name):
                self.assertRaises(BadPicture, of_pictures, [picture])
                for place in range(3):
                    pictures = [["ab"], ["c", "d"]]
                    pictures.insert(place, picture)
                    self.assertRaises(BadPicture, of_pictures, pictures)

    def test_what_was_handed_in_stays(self):
        for pictures in [[], [["ab"], ["ba", "dc"]], [["a"], ["a"]]]:
            before = copy.deepcopy(pictures)
            of_pictures(pictures)
            self.assertEqual(pictures, before)

    def test_lists_are_new(self):
        for pictures in [[], [["ab"]]]:
            first = of_pictures(pictures)
            due = copy.deepcopy(first)
            first[1].append((9, 9, 9, 9))
            self.assertEqual(of_pictures(pictures), due)
            self.assertIsNot(of_pictures(pictures)[1], of_pictures(pictures)[1])


if __name__ == "__main__":
    unittest.main()
