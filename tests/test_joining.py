import copy
import inspect
import unittest

from oracles import all_pictures
from quiltyard.errors import BadSystem
from quiltyard.joining import beside_of, either, meeting, mirrored_of, over_of, stood_system
from quiltyard.letting import lets
from quiltyard.parting import told_height
from quiltyard.pictures import beside, mirrored, over
from quiltyard.systems import look_system, of_pictures
from samples import (bad_systems, every_tile, picture_of_size, some_tiles, system_of_counter, system_of_phases,
                     system_of_rows, system_with_full_column)

OF_TWO = [either, meeting, beside_of, over_of]
OF_ONE = [mirrored_of, stood_system]
SMALL = [(1, 1), (1, 2), (1, 3), (1, 4), (2, 1), (2, 2), (2, 3), (2, 4), (3, 1), (3, 2), (3, 3), (4, 1), (4, 2)]
NOTHING = [("", []), ("", [(-1, -1, -1, -1)]), ("a", []), ("ab", [(-1, -1, -1, -1), (0, 0, 0, 0)])]


class Lets:
    """What a system lets by, each picture asked once."""

    def __init__(self, system):
        self.system = system
        self.known = {}

    def __contains__(self, picture):
        name = tuple(picture)
        if name not in self.known:
            self.known[name] = lets(self.system, picture) is not None
        return self.known[name]


def cut_beside(picture):
    return [([row[:k] for row in picture], [row[k:] for row in picture]) for k in range(1, len(picture[0]))]


def cut_over(picture):
    return [(picture[:k], picture[k:]) for k in range(1, len(picture))]


def stood(picture):
    return ["".join(column) for column in zip(*picture)]


def is_joined(function, one, other, picture):
    """[5.1], by what the systems handed in let by."""
    if function == either:
        return picture in one or picture in other
    if function == meeting:
        return picture in one and picture in other
    cuts = cut_beside(picture) if function == beside_of else cut_over(picture)
    return any(left in one and right in other for left, right in cuts)


def some_systems():
    """Of up to three marks for two letters."""
    turn = 40
    for letters in ["a", "aa", "ab", "ba", "aab", "bab", "bba"]:
        for share, edge_share in [(40, 90), (60, 100), (85, 80)]:
            turn += 1
            yield (letters, some_tiles(len(letters), share, turn, edge_share))


class Joined(unittest.TestCase):
    """[5.1], [0.2]"""

    def assert_system(self, system):
        self.assertIsInstance(system, tuple)
        self.assertIsInstance(system[0], str)
        self.assertIsInstance(system[1], list)
        self.assertIsNone(look_system(system))

    def assert_joined(self, one, other, sizes=SMALL, letters="ab"):
        """All pictures of some sizes; how many are let by of each."""
        parts = (Lets(one), Lets(other))
        found = []
        for function in OF_TWO:
            told = function(one, other)
            self.assert_system(told)
            found.append(0)
            for high, wide in sizes:
                for picture in all_pictures(letters, high, wide):
                    due = is_joined(function, *parts, picture)
                    self.assertEqual(lets(told, picture) is not None, due, (function, one, other, picture))
                    found[-1] += due
        return found

    def assert_turned(self, system, sizes=SMALL, letters="ab"):
        let_by = Lets(system)
        mirror = mirrored_of(system)
        stand = stood_system(system)
        self.assert_system(mirror)
        self.assert_system(stand)
        for high, wide in sizes:
            for picture in all_pictures(letters, high, wide):
                self.assertEqual(lets(mirror, picture) is not None, mirrored(picture) in let_by, (system, picture))
                if wide <= 4:
                    self.assertEqual(lets(stand, picture) is not None, stood(picture) in let_by, (system, picture))

    def test_arguments(self):
        for function in OF_TWO:
            self.assertEqual(list(inspect.signature(function).parameters), ["one", "other"])
        for function in OF_ONE:
            self.assertEqual(list(inspect.signature(function).parameters), ["system"])

    def test_one_picture_each_by_hand(self):
        one = system_of_rows("abc", [[0, 1], [2, 0]])
        other = system_of_rows("dc", [[0], [1]])
        self.assertIsNotNone(lets(beside_of(one, other), ["abd", "cac"]))
        self.assertIsNone(lets(beside_of(other, one), ["abd", "cac"]))
        self.assertIsNotNone(lets(beside_of(other, one), ["dab", "cca"]))
        for picture in [["ab", "ca"], ["d", "c"]]:
            self.assertIsNotNone(lets(either(one, other), picture))
            for joined in [meeting(one, other), beside_of(one, other), over_of(one, other)]:
                self.assertIsNone(lets(joined, picture))
        self.assertIsNotNone(lets(over_of(one, one), ["ab", "ca", "ab", "ca"]))
        self.assertIsNone(lets(over_of(one, other), ["ab", "ca", "d", "c"][:2]))
        self.assertIsNotNone(lets(mirrored_of(one), ["ba", "ac"]))
        self.assertIsNone(lets(mirrored_of(one), ["ab", "ca"]))
        self.assertIsNotNone(lets(stood_system(one), ["ac", "ba"]))
        self.assertIsNone(lets(stood_system(one), ["ab", "ca"]))
        self.assertIsNotNone(lets(stood_system(other), ["dc"]))

    def test_all_small_pictures(self):
        found = [0, 0, 0, 0]
        systems = list(some_systems())
        for turn, one in enumerate(systems):
            other = systems[(turn * 5 + 2) % len(systems)]
            sizes = SMALL[turn % 6::6] if turn != 7 else SMALL
            found = [least + more for least, more in zip(found, self.assert_joined(one, other, sizes))]
        self.assertGreater(min(found), 150)

    def test_a_system_with_itself(self):
        for one in list(some_systems())[::4]:
            self.assert_joined(one, one, [(1, 3), (2, 2), (3, 1), (2, 3)])

    def test_four_rows_or_columns(self):
        found = [0, 0, 0, 0]
        for turn, one in enumerate(list(some_systems())[2::6]):
            other = ("ab", some_tiles(2, 70, turn + 3, 95))
            told = self.assert_joined(one, other, [(4, 1), (1, 4), (4, 2), (2, 4)])
            found = [least + more for least, more in zip(found, told)]
        self.assertGreater(min(found), 100)

    def test_four_letters(self):
        one = ("abcd", some_tiles(4, 60, 1))
        other = ("dac", some_tiles(3, 70, 2))
        self.assert_joined(one, other, [(1, 1), (1, 3), (2, 2), (3, 1)], "abcd")
        self.assert_turned(one, [(1, 3), (2, 2), (3, 1)], "abcd")

    def test_mirrored_and_stood_of_all_small_pictures(self):
        for system in some_systems():
            self.assert_turned(system, [(1, 1), (1, 2), (1, 4), (2, 1), (2, 2), (2, 3), (3, 2), (4, 1), (3, 1)])
        for system in list(some_systems())[::10]:
            self.assert_turned(system, [(2, 4), (4, 2), (3, 3)])

    def test_systems_that_let_nothing_by(self):
        for nothing in NOTHING:
            self.assert_turned(nothing, [(1, 1), (2, 2), (1, 3)])
            for other in NOTHING:
                self.assertEqual(self.assert_joined(nothing, other, [(1, 1), (1, 2), (2, 1), (2, 2)]), [0] * 4)
            for other in list(some_systems())[::6]:
                found = self.assert_joined(nothing, other, [(1, 1), (1, 3), (2, 2), (3, 1)])
                self.assertEqual(found[1:], [0, 0, 0])
                found = self.assert_joined(other, nothing, [(1, 1), (1, 3), (2, 2), (3, 1)])
                self.assertEqual(found[1:], [0, 0, 0])

    def test_no_mark(self):
        for function in OF_TWO:
            self.assertEqual(function(("", []), ("", [])), ("", []))
        for function in OF_ONE:
            self.assertEqual(function(("", [])), ("", []))

    def test_seam_is_one_line(self):
        # Rows of one letter each: a seam that is not straight would let other pictures by.
        one = ("a", every_tile(1))
        other = ("b", every_tile(1))
        for high in range(1, 5):
            for wide in range(1, 4):
                for picture in all_pictures("ab", high, wide):
                    beside_due = len(set(picture)) == 1 and picture[0] in ("ab", "aab", "abb")
                    self.assertEqual(lets(beside_of(one, other), picture) is not None, beside_due)
                    over_due = "".join(picture).startswith("a" * wide) and picture[-1] == "b" * wide
                    over_due = over_due and picture == sorted(picture) and not [
                        row for row in picture if row not in ("a" * wide, "b" * wide)]
                    self.assertEqual(lets(over_of(one, other), picture) is not None, over_due)

    def test_parts_of_one_row_and_of_one_column(self):
        row = system_of_rows("ab", [[0, 1]])
        column = system_of_rows("ab", [[0], [1]])
        self.assert_joined(row, row)
        self.assert_joined(column, column)
        self.assert_joined(row, column)
        self.assert_joined(column, row)

    def test_large_pictures(self):
        for high, wide in [(4, 5), (1, 6), (3, 1), (2, 11)]:
            left = picture_of_size(high, wide)
            right = picture_of_size(high, 12 - wide, 2)
            one = of_pictures([left])
            other = of_pictures([right])
            self.assertIsNotNone(lets(beside_of(one, other), beside(left, right)))
            self.assertIsNotNone(lets(beside_of(other, one), beside(right, left)))
            self.assertIsNotNone(lets(either(one, other), left))
            self.assertIsNotNone(lets(either(one, other), right))
            self.assertIsNotNone(lets(mirrored_of(one), mirrored(left)))
            self.assertIsNotNone(lets(meeting(one, of_pictures([left, right])), left))
        for high in range(1, 4):
            upper = picture_of_size(high, 12)
            lower = picture_of_size(4 - high, 12, 1)
            self.assertIsNotNone(lets(over_of(of_pictures([upper]), of_pictures([lower])), over(upper, lower)))
        for high, wide in [(4, 4), (1, 4), (4, 1), (2, 3)]:
            picture = picture_of_size(high, wide)
            self.assertIsNotNone(lets(stood_system(of_pictures([picture])), stood(picture)))

    def test_at_every_width(self):
        # Joined again, the same pictures come; told_height looks at all widths.
        systems = list(some_systems())
        for turn, one in enumerate(systems):
            other = systems[(turn * 3 + 1) % len(systems)]
            pairs = [(mirrored_of(mirrored_of(one)), one), (stood_system(stood_system(one)), one),
                     (either(one, other), either(other, one)), (meeting(one, other), meeting(other, one)),
                     (mirrored_of(beside_of(one, other)), beside_of(mirrored_of(other), mirrored_of(one))),
                     (stood_system(over_of(one, other)), beside_of(stood_system(one), stood_system(other))),
                     (mirrored_of(over_of(one, other)), over_of(mirrored_of(one), mirrored_of(other)))]
            for left, right in pairs[turn % 3::3] + pairs[:1]:
                for high in (1, 2):
                    self.assertEqual(told_height(left, right, high)[0], "alike", (one, other))

    def test_wide_ones(self):
        # Pictures of two counters beside one another, wider than 12 together.
        one = system_of_counter(2, "ab")
        joined = beside_of(one, system_of_counter(2, "cd"))
        self.assertEqual(told_height(joined, ("", []), 3), ("unlike", ["aaaabbbbccccdddd", "aabbaabbccddccdd",
                                                                       "abababab" + "cdcdcdcd"]))
        self.assertEqual(told_height(meeting(one, ("b", every_tile(1))), ("", []), 2)[0], "alike")


class Marks(unittest.TestCase):
    """[5.1]: how many marks there may be, and what is refused."""

    def of_marks(self, many, others, tiles):
        return (("abcd" * 5)[:many], tiles), (("dcba" * 5)[:others], tiles)

    def assert_takes(self, function, many, others):
        for tiles in ([], [(-1, -1, -1, -1)]):
            self.assertIsNone(look_system(function(*self.of_marks(many, others, tiles))))

    def assert_refuses(self, function, many, others):
        self.assertRaises(BadSystem, function, *self.of_marks(many, others, []))

    def test_marks_together(self):
        for function in [either, beside_of, over_of]:
            for many in range(17):
                self.assert_takes(function, many, 16 - many)
                self.assert_takes(function, many, max(15 - many, 0))
                for others in range(17 - many, 17):
                    self.assert_refuses(function, many, others)

    def test_marks_times_marks(self):
        for many in range(17):
            for others in range(17):
                if many * others <= 16:
                    self.assert_takes(meeting, many, others)
                else:
                    self.assert_refuses(meeting, many, others)
        for many, others in [(4, 4), (16, 1), (1, 16), (0, 16), (16, 0), (2, 8), (3, 5)]:
            self.assert_takes(meeting, many, others)
        for many, others in [(4, 5), (5, 4), (16, 2), (2, 16), (1, 17), (3, 6), (16, 16), (0, 17)]:
            self.assert_refuses(meeting, many, others)

    def test_marks_for_other_letters_count_too(self):
        self.assertRaises(BadSystem, meeting, ("a" * 4, []), ("b" * 5, []))
        self.assertIsNone(look_system(meeting(("a" * 4, every_tile(4)), ("b" * 4, every_tile(4)))))

    def test_all_tiles_of_sixteen_marks(self):
        eight = ("abcdabcd", every_tile(8))
        picture = picture_of_size(3, 6)
        for function in [either, beside_of, over_of]:
            told = function(eight, eight)
            self.assertIsNone(look_system(told))
            self.assertEqual(len(told[0]), 16)
            self.assertIsNotNone(lets(told, picture))
        for one, other in [(("abca", every_tile(4)), ("aacb", every_tile(4))),
                           (("abcd" * 4, every_tile(16)), ("a", every_tile(1))),
                           (("b", every_tile(1)), ("abcb" * 4, every_tile(16)))]:
            told = meeting(one, other)
            self.assertIsNone(look_system(told))
            for letter in "abcd":
                due = letter in one[0] and letter in other[0]
                self.assertEqual(lets(told, [letter * 5] * 3) is not None, due)
        told = mirrored_of(("abcd" * 4, every_tile(16)))
        self.assertEqual(told, ("abcd" * 4, every_tile(16)))
        self.assertEqual(stood_system(told), told)

    def test_each_one_is_looked_at_first(self):
        fine = ("ab" * 8, every_tile(1))
        for name, system in bad_systems():
            with self.subTest(name):
                for function in OF_TWO:
                    for other in [fine, ("", []), ("a", every_tile(1)), system]:
                        self.assertRaises(BadSystem, function, system, other)
                        self.assertRaises(BadSystem, function, other, system)
                for function in OF_ONE:
                    self.assertRaises(BadSystem, function, system)

    def test_handed_in_stays_and_told_is_new(self):
        for one in [("aab", some_tiles(3, 50, 1)), ("", []), ("a", every_tile(1)), system_with_full_column()]:
            for other in [("ab", some_tiles(2, 60, 2)), ("", []), ("a", [])]:
                before = copy.deepcopy((one, other))
                for function, handed in [(function, (one, other)) for function in OF_TWO] + [
                        (function, (one,)) for function in OF_ONE]:
                    told = function(*handed)
                    due = copy.deepcopy(told)
                    told[1].append("more")
                    self.assertEqual((one, other), before)
                    self.assertEqual(function(*handed), due)

    def test_systems_of_phases(self):
        # The right part is chosen by its first column, in whatever many ways a row of a and b can be cut.
        one = system_of_phases("ab", [0, 1], [(0, 0), (0, 1), (1, 1)], [0], [1])
        joined = beside_of(one, one)
        for wide in range(1, 8):
            for picture in all_pictures("ab", 1, wide):
                runs = picture[0].replace("ba", "b a").split(" ")
                due = len(runs) == 2 and all(set(run) == {"a", "b"} for run in runs)
                self.assertEqual(lets(joined, picture) is not None, due, picture)


if __name__ == "__main__":
    unittest.main()
