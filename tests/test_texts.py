import copy
import inspect
import itertools
import re
import unittest

from quiltyard.errors import BadText, QuiltError
from quiltyard.systems import look_system, of_pictures
from quiltyard.texts import read, written
from samples import every_tile, picture_of_size, some_tiles, system_of_counter, system_with_full_column

# No system has a mark of three figures.
TILE = re.compile(" ".join(["(#|0|[1-9][0-9]?)"] * 4))
SIGNS = " #0123456789abcde-+A~\n"


def fields_of(row, marks):
    """The tile that a row tells, or None."""
    match = TILE.fullmatch(row)
    if not match:
        return None
    tile = tuple(-1 if field == "#" else int(field) for field in match.groups())
    return tile if max(tile) < marks else None


def due_of(text):
    """[7.1]: the system, or the number of the first row with which none goes on."""
    rows = text.split("\n")
    if not re.fullmatch("[abcd]{0,16}", rows[0]):
        return 1
    tiles = []
    for number, row in enumerate(rows[1:], start=2):
        tile = fields_of(row, len(rows[0]))
        if tile is None or (tiles and tile <= tiles[-1]):
            return number
        tiles.append(tile)
    return (rows[0], tiles)


def some_systems():
    found = [("", []), ("", [(-1, -1, -1, -1)]), ("a", []), ("abcd" * 4, []), ("d", every_tile(1)),
             ("ab", every_tile(2)), ("abcd" * 4, some_tiles(16, 1, 1, 3)), system_of_counter(3, "cab"),
             system_with_full_column(), of_pictures([picture_of_size(4, 12)])]
    return found + [(("abcd" * 4)[:marks], some_tiles(marks, 3, marks, 5)) for marks in range(17)]


def short_systems():
    """Of few tiles, for texts that are changed at every place."""
    return [("", []), ("", [(-1, -1, -1, -1)]), ("a", [(-1, -1, -1, 0), (0, -1, -1, 0)]), ("bca", []),
            ("abcd" * 4, [(-1, -1, -1, 9), (-1, -1, -1, 10), (0, 1, 2, 15), (11, 12, 13, 14)]),
            ("abcd" * 3 + "a", [(-1, 0, 1, 12), (9, 12, 1, 10)]), ("dd", [(0, 0, 0, 0), (0, 0, 0, 1), (1, -1, 1, 1)])]


class Written(unittest.TestCase):
    """[7.1]"""

    def test_arguments(self):
        self.assertEqual(list(inspect.signature(written).parameters), ["system"])
        self.assertEqual(list(inspect.signature(read).parameters), ["text"])

    def test_by_hand(self):
        for system, text in [
                (("", []), ""),
                (("abca", []), "abca"),
                (("", [(-1, -1, -1, -1)]), "\n# # # #"),
                (("ab", [(-1, -1, -1, 0), (0, 1, -1, -1)]), "ab\n# # # 0\n0 1 # #"),
                (("abcd" * 4, [(-1, 9, 10, 15), (2, 3, 4, 5)]), "abcdabcdabcdabcd\n# 9 10 15\n2 3 4 5")]:
            self.assertEqual(written(system), text)
            self.assertEqual(read(text), system)

    def test_back_and_forth(self):
        for system in some_systems() + short_systems():
            text = written(system)
            rows = text.split("\n")
            self.assertEqual(rows[0], system[0])
            self.assertEqual([fields_of(row, len(system[0])) for row in rows[1:]], system[1])
            told = read(text)
            self.assertEqual(told, system)
            self.assertEqual([told.__class__, told[1].__class__], [tuple, list])
            self.assertEqual([tile.__class__ for tile in told[1]], [tuple] * len(told[1]))
            self.assertIsNone(look_system(told))
            self.assertEqual(written(told), text)

    def test_all_tiles_of_sixteen_marks(self):
        system = ("abcd" * 4, every_tile(16))
        self.assertEqual(read(written(system)), system)

    def test_handed_in_stays_and_told_is_new(self):
        for system in short_systems():
            before = copy.deepcopy(system)
            text = written(system)
            self.assertEqual(system, before)
            first = read(text)
            first[1].append("more")
            self.assertEqual(read(text), before)


class Read(unittest.TestCase):
    """[7.1]: just what is written so."""

    def assert_read(self, text):
        """The system, or the row of BadText; True if it is one."""
        due = due_of(text)
        if isinstance(due, tuple):
            self.assertEqual(read(text), due)
            self.assertEqual(written(read(text)), text)
            return True
        self.assert_row(text, due)
        return False

    def assert_row(self, text, row):
        with self.assertRaises(BadText, msg=repr(text)) as caught:
            read(text)
        self.assertEqual(caught.exception.row, row, repr(text))
        self.assertIsInstance(caught.exception, QuiltError)

    def test_wrong_rows_by_hand(self):
        for text, row in [
                ("\n", 2), ("ab\n", 2), ("\n\n", 2), ("ab\n# # # 0\n", 3), ("ab\n\n# # # 0", 2),
                ("e", 1), ("aeb\n# # # 0", 1), (" ab", 1), ("ab ", 1), ("A", 1), ("abcd" * 4 + "a", 1),
                ("abcd" * 4 + "a\n# # # 0", 1), ("# # # 0", 1), ("#", 1), ("0", 1), (" ", 1), ("a b", 1),
                ("ab\n# # # 2", 2), ("ab\n# # # 0\n# # # 2", 3), ("\n# # # 0", 2), ("ab\n# # # -1", 2),
                ("ab\n# # # 00", 2), ("ab\n# # # 01", 2), ("ab\n# # # +1", 2), ("ab\n# # # 1 ", 2),
                ("ab\n # # # 1", 2), ("ab\n# #  # 1", 2), ("ab\n# # #", 2), ("ab\n# # # ", 2), ("ab\n# # # 1 1", 2),
                ("ab\n####", 2), ("ab\n# # #1", 2), ("ab\n# # ## 1", 2), ("ab\n0 # # a", 2), ("ab\n1 1 1 1\n1 1 1 0", 3),
                ("ab\n1 1 1 1\n1 1 1 1", 3), ("ab\n# # # 1\n# # # 0\ne", 3), ("ab\n0 # # #\n# 0 # #", 3),
                ("ab\nab", 2), ("ab\n# # # 0\nab", 3), ("ab\n0 0 0 " + "9" * 5000, 2), ("ab\n0 0 0 " + "0" * 5000, 2),
                ("ab\n# # # 0\n# # # 1\n# # # #", 4), ("abcd" * 4 + "\n# # # 16", 2),
                ("abcdabcdabcd\n# # # 10\n# # # 9", 3), ("ab\n#\n0", 2), ("a" * 5000, 1), ("a\n\n", 2)]:
            self.assertEqual(due_of(text), row, repr(text))
            self.assert_row(text, row)

    def test_a_sign_put_in_taken_out_or_made_another(self):
        found = []
        for system in short_systems():
            text = written(system)
            for place in range(len(text) + 1):
                for sign in SIGNS:
                    found.append(self.assert_read(text[:place] + sign + text[place:]))
                    if place < len(text):
                        found.append(self.assert_read(text[:place] + sign + text[place + 1:]))
                if place < len(text):
                    found.append(self.assert_read(text[:place] + text[place + 1:]))
        self.assertGreater(found.count(True), 100)
        self.assertGreater(found.count(False), 1000)

    def test_a_row_put_in_taken_out_or_moved(self):
        more = ["", " ", "#", "# # # #", "0 0 0 0", "0 # # 0", "15 15 15 15", "16 0 0 0", "abcd", "# # # # #", "e",
                "00 0 0 0", "0 0 0 1 ", "# # # 9"]
        found = []
        for system in short_systems():
            rows = written(system).split("\n")
            for place in range(len(rows) + 1):
                for row in more + rows:
                    found.append(self.assert_read("\n".join(rows[:place] + [row] + rows[place:])))
                    found.append(self.assert_read("\n".join(rows[:place] + [row] + rows[place + 1:])))
                found.append(self.assert_read("\n".join(rows[:place] + rows[place + 1:])))
            for turned in itertools.permutations(rows[:5]):
                found.append(self.assert_read("\n".join(turned)))
        self.assertGreater(found.count(True), 30)
        self.assertGreater(found.count(False), 300)

    def test_all_short_texts(self):
        for length in range(4):
            for signs in itertools.product(" #0a1e\n", repeat=length):
                self.assert_read("".join(signs))
        for signs in itertools.product("#012 ", repeat=4):
            self.assert_read("ab\n" + " ".join(signs))

    def test_number_of_letters(self):
        for many in range(20):
            self.assertEqual(self.assert_read(("dcba" * 5)[:many]), many <= 16)
            self.assertEqual(self.assert_read(("dcba" * 5)[:many] + "\n# # # #"), many <= 16)
            for mark in range(20):
                text = ("dcba" * 5)[:many] + f"\n# {mark} # #"
                self.assertEqual(self.assert_read(text), mark < many <= 16)

    def test_each_row_of_many_wrong(self):
        system = ("ab", every_tile(2))
        rows = written(system).split("\n")
        for place in range(1, len(rows), 7):
            for row in ["", rows[place] + " ", rows[place - 1], "2 2 2 2", rows[place].replace(" ", "  ", 1)]:
                self.assert_row("\n".join(rows[:place] + [row] + rows[place + 1:]), place + 1)
            self.assertEqual(read("\n".join(rows[:place])), ("ab", system[1][:place - 1]))


if __name__ == "__main__":
    unittest.main()
