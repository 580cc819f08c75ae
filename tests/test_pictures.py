import copy
import inspect
import unittest

from quiltyard.errors import BadPicture, Unlike
from quiltyard.pictures import beside, columns_of, flipped, mirrored, over
from samples import GOOD, all_sizes, bad_pictures, picture_of_size

OF_ONE = [columns_of, mirrored, flipped]
OF_TWO = [beside, over]


class Made(unittest.TestCase):
    """[1.1], [1.2]: what comes, sign by sign."""

    def assert_size(self, rows, high, wide):
        self.assertIsInstance(rows, list)
        self.assertEqual([len(row) for row in rows], [wide] * high)

    def test_arguments(self):
        for call in OF_ONE:
            self.assertEqual(list(inspect.signature(call).parameters), ["picture"])
        for call in OF_TWO:
            self.assertEqual(list(inspect.signature(call).parameters), ["one", "other"])

    def test_by_hand(self):
        self.assertEqual(columns_of(["abc", "dcb"]), ["ad", "bc", "cb"])
        self.assertEqual(columns_of(["a"]), ["a"])
        self.assertEqual(mirrored(["abc", "dda"]), ["cba", "add"])
        self.assertEqual(flipped(["ab", "cd", "aa"]), ["aa", "cd", "ab"])
        self.assertEqual(beside(["a", "b"], ["cd", "dc"]), ["acd", "bdc"])
        self.assertEqual(over(["ab"], ["cd", "dc"]), ["ab", "cd", "dc"])

    def test_each_letter_may_stand_everywhere(self):
        for letter in "abcd":
            self.assertEqual(mirrored([letter * 12] * 4), [letter * 12] * 4)

    def test_columns_of_every_size(self):
        for high, wide in all_sizes():
            picture = picture_of_size(high, wide)
            columns = columns_of(picture)
            self.assert_size(columns, wide, high)
            for r in range(high):
                for c in range(wide):
                    self.assertEqual(columns[c][r], picture[r][c])

    def test_mirrored_of_every_size(self):
        for high, wide in all_sizes():
            picture = picture_of_size(high, wide)
            told = mirrored(picture)
            self.assert_size(told, high, wide)
            for r in range(high):
                for c in range(wide):
                    self.assertEqual(told[r][wide - 1 - c], picture[r][c])

    def test_flipped_of_every_size(self):
        for high, wide in all_sizes():
            picture = picture_of_size(high, wide)
            told = flipped(picture)
            self.assert_size(told, high, wide)
            for r in range(high):
                for c in range(wide):
                    self.assertEqual(told[high - 1 - r][c], picture[r][c])

    def test_beside_of_every_pair_of_sizes(self):
        for high, left in all_sizes():
            for right in range(1, 13):
                one = picture_of_size(high, left)
                other = picture_of_size(high, right, 1)
                if left + right > 12:
                    self.assertRaises(BadPicture, beside, one, other)
                    continue
                told = beside(one, other)
                self.assert_size(told, high, left + right)
                for r in range(high):
                    for c in range(left + right):
                        due = one[r][c] if c < left else other[r][c - left]
                        self.assertEqual(told[r][c], due)

    def test_over_of_every_pair_of_sizes(self):
        for upper, wide in all_sizes():
            for lower in range(1, 5):
                one = picture_of_size(upper, wide)
                other = picture_of_size(lower, wide, 1)
                if upper + lower > 4:
                    self.assertRaises(BadPicture, over, one, other)
                    continue
                told = over(one, other)
                self.assert_size(told, upper + lower, wide)
                for r in range(upper + lower):
                    for c in range(wide):
                        due = one[r][c] if r < upper else other[r - upper][c]
                        self.assertEqual(told[r][c], due)


class Refused(unittest.TestCase):
    def test_what_is_no_picture(self):
        for name, rows in bad_pictures():
            for call in OF_ONE:
                with self.subTest(name, call=call.__name__):
                    self.assertRaises(BadPicture, call, rows)
            for call in OF_TWO:
                with self.subTest(name, call=call.__name__):
                    self.assertRaises(BadPicture, call, rows, GOOD)
                    self.assertRaises(BadPicture, call, GOOD, rows)
                    self.assertRaises(BadPicture, call, rows, rows)

    def test_unlike(self):
        for high, wide in all_sizes():
            one = picture_of_size(high, wide)
            for other_high, other_wide in all_sizes():
                other = picture_of_size(other_high, other_wide)
                if high != other_high:
                    self.assertRaises(Unlike, beside, one, other)
                if wide != other_wide:
                    self.assertRaises(Unlike, over, one, other)

    def test_each_by_itself_first(self):
        # Each would be Unlike too, and the halves of the last ones would join to a picture.
        self.assertRaises(BadPicture, beside, ["ab"], ["ab", "aX"])
        self.assertRaises(BadPicture, beside, ["aX", "ab"], ["ab"])
        self.assertRaises(BadPicture, over, ["ab"], ["abe"])
        self.assertRaises(BadPicture, over, ["abe"], ["ab"])
        self.assertRaises(BadPicture, beside, ["a", "ab"], ["ab", "a"])
        self.assertRaises(BadPicture, beside, [""], ["ab"])
        self.assertRaises(BadPicture, beside, ["ab"], [""])
        self.assertRaises(BadPicture, over, [], ["ab"])
        self.assertRaises(BadPicture, over, ["ab"], [])

    def test_unlike_ahead_of_what_comes(self):
        self.assertRaises(Unlike, beside, ["a" * 12], ["a" * 12, "b" * 12])
        self.assertRaises(Unlike, over, ["a"] * 4, ["aa"] * 4)

    def test_edges_of_what_comes(self):
        self.assertEqual(beside(["a" * 11], ["b"]), ["a" * 11 + "b"])
        self.assertRaises(BadPicture, beside, ["a" * 12], ["b"])
        self.assertRaises(BadPicture, beside, ["a"], ["b" * 12])
        self.assertEqual(over(["a"] * 3, ["b"]), ["a", "a", "a", "b"])
        self.assertRaises(BadPicture, over, ["a"] * 4, ["b"])
        self.assertRaises(BadPicture, over, ["a"], ["b"] * 4)


class Kept(unittest.TestCase):
    """[0.1]: nothing handed in is changed or kept, lists that are told are new ones."""

    def test_what_was_handed_in_stays(self):
        for high, wide in all_sizes():
            one = picture_of_size(high, wide)
            before = copy.deepcopy(one)
            for call in OF_ONE:
                call(one)
                self.assertEqual(one, before)
        one = ["ab", "cd"]
        other = ["dd", "ca"]
        for call in OF_TWO:
            call(one, other)
            self.assertEqual((one, other), (["ab", "cd"], ["dd", "ca"]))

    def test_what_was_refused_stays(self):
        for name, rows in bad_pictures():
            before = list(rows)
            for call in OF_ONE:
                self.assertRaises(BadPicture, call, rows)
            self.assertEqual(rows, before, name)

    def test_lists_are_new(self):
        # All three calls tell of this one what equals it.
        for picture in [["a"], ["aa", "aa"], ["aba", "bcb", "aba"]]:
            for call in OF_ONE:
                told = call(picture)
                self.assertEqual(told, picture)
                self.assertIsNot(told, picture)
                told.append("d")
                told[0] = "d"
                self.assertEqual(call(picture), picture)
                self.assertNotIn("d", "".join(picture))

    def test_joined_lists_are_new(self):
        one = ["ab", "cd"]
        for call in OF_TWO:
            first = call(one, one)
            second = call(one, one)
            self.assertEqual(first, second)
            self.assertIsNot(first, second)
            first.append("a")
            first[0] = "d"
            self.assertEqual(one, ["ab", "cd"])
            self.assertEqual(call(one, one), second)


if __name__ == "__main__":
    unittest.main()
