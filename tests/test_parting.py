import copy
import inspect
import itertools
import unittest

from oracles import ByColumns, are_shown_alike, least_rows, pairs_reached, rows_of_word
from quiltyard.errors import BadSize
from quiltyard.letting import lets
from quiltyard.parting import parted, shows_alike, told_height
from quiltyard.pictures import columns_of
from samples import (every_tile, some_tiles, system_of_counter, system_of_heights, system_of_phases,
                     system_of_rows, system_with_full_column, with_mark_twice, with_order, with_tile_changed)

LONG = 10 ** 15 - 1
NOTHING = [("", []), ("", [(-1, -1, -1, -1)]), ("a", []), ("ab", []), ("bab", [(-1, -1, -1, -1)])]
WIDEST = {1: 7, 2: 4, 3: 3, 4: 2}


def some_systems():
    """Of up to three marks for two letters."""
    turn = 0
    for letters in ["a", "b", "aa", "ab", "ba", "aab", "aba", "bba", "bab", "aaa"]:
        for share, edge_share in [(35, 100), (55, 90), (75, 100), (90, 85)]:
            turn += 1
            yield (letters, some_tiles(len(letters), share, turn, edge_share))


def other_tellings(system, turn):
    """The same system told otherwise."""
    marks = len(system[0])
    orders = list(itertools.permutations(range(marks)))
    found = [system, with_order(system, orders[turn % len(orders)])]
    if marks < 3:
        found.append(with_mark_twice(system, turn % marks))
    return found


def some_pairs():
    """Two systems each: one told otherwise, one with tiles changed, and both."""
    systems = list(some_systems())
    for turn, system in enumerate(systems):
        for other in other_tellings(system, turn):
            yield system, other
        changed = with_tile_changed(system, turn)
        yield system, changed
        yield with_tile_changed(changed, turn + 5), system
        yield other_tellings(changed, turn + 1)[-1], system
        yield system, systems[(turn * 7 + 3) % len(systems)]


class ToldHeight(unittest.TestCase):
    """[4.2], [0.2]"""

    def assert_least(self, one, other, high, picture):
        """Just one lets it by, and none that is narrower, or as wide and ahead of it, is such."""
        plain = [ByColumns(system, high) for system in (one, other)]
        word = tuple("".join(column) for column in zip(*picture))
        self.assertEqual(len(picture), high)
        self.assertEqual([system.lets(picture) is None for system in plain].count(True), 1, (one, other, picture))
        for wide in range(1, min(len(word), WIDEST[high] + 1)):
            self.assertEqual(plain[0].words(wide), plain[1].words(wide), (one, other, picture))
        if len(word) <= WIDEST[high]:
            self.assertEqual(min(plain[0].words(len(word)) ^ plain[1].words(len(word))), word, (one, other))

    def assert_alike(self, one, other, high, pairs):
        plain = [ByColumns(system, high) for system in (one, other)]
        self.assertIsInstance(pairs, list)
        self.assertEqual(len(pairs), len(set(pairs)))
        self.assertEqual(set(pairs), pairs_reached(*plain), (one, other))
        self.assertTrue(are_shown_alike(*plain, pairs))
        self.assertIs(shows_alike(one, other, high, pairs), True)
        for wide in range(1, WIDEST[high] + 1):
            self.assertEqual(plain[0].words(wide), plain[1].words(wide), (one, other))

    def assert_told(self, one, other, high):
        told = told_height(one, other, high)
        self.assertIsInstance(told, tuple)
        self.assertEqual(len(told), 2)
        if told[0] == "unlike":
            self.assert_least(one, other, high, told[1])
        else:
            self.assertEqual(told[0], "alike")
            self.assert_alike(one, other, high, told[1])
        return told[0]

    def test_arguments(self):
        self.assertEqual(list(inspect.signature(told_height).parameters), ["one", "other", "high"])
        self.assertEqual(list(inspect.signature(shows_alike).parameters), ["one", "other", "high", "pairs"])
        self.assertEqual(list(inspect.signature(parted).parameters), ["one", "other", "high"])

    def test_one_field_by_hand(self):
        tiles = [(-1, -1, -1, 0), (-1, -1, 0, -1), (-1, 0, -1, -1), (0, -1, -1, -1)]
        begun = ((-1,),)
        self.assertEqual(told_height(("a", tiles), ("", []), 1), ("unlike", ["a"]))
        self.assertEqual(told_height(("", []), ("d", tiles), 1), ("unlike", ["d"]))
        self.assertEqual(told_height(("c", tiles), ("b", tiles), 1), ("unlike", ["b"]))
        kind, pairs = told_height(("a", tiles), ("a", tiles), 1)
        self.assertEqual((kind, sorted(pairs)), ("alike", [(begun, begun), (((0,),), ((0,),))]))
        self.assertEqual(told_height(("a", tiles), ("a", tiles), 2), ("alike", [(((-1, -1),), ((-1, -1),))]))

    def test_columns_that_lead_nowhere_are_among_the_pairs_by_hand(self):
        # Mark 0 may stand first and be followed by mark 1, which may be followed by nothing; no row ends.
        tiles = [(-1, -1, -1, 0), (-1, -1, 0, 1), (-1, 0, -1, -1), (0, 1, -1, -1)]
        kind, pairs = told_height(("aa", tiles), ("aa", []), 1)
        self.assertEqual(kind, "alike")
        self.assertEqual(sorted(pairs), [(((-1,),), ((-1,),)), (((0,),), ()), (((1,),), ())])

    def test_all_columns_of_marks_in_a_pair_by_hand(self):
        # Two marks for one letter and all tiles: both columns stand there, rising.
        kind, pairs = told_height(("aa", every_tile(2)), ("a", every_tile(1)), 2)
        many = ((0, 0), (0, 1), (1, 0), (1, 1))
        self.assertEqual(kind, "alike")
        self.assertEqual(sorted(pairs), [(((-1, -1),), ((-1, -1),)), (many, ((0, 0),))])

    def test_order_is_by_columns_by_hand(self):
        # By rows the second picture would come first.
        one = system_of_rows("abab", [[0, 1], [2, 3]])
        other = system_of_rows("aabb", [[0, 1], [2, 3]])
        self.assertEqual(told_height(one, other, 2), ("unlike", ["ab", "ab"]))
        self.assertEqual(told_height(other, one, 2), ("unlike", ["ab", "ab"]))

    def test_narrower_comes_ahead_of_order_by_hand(self):
        one = system_of_rows("dd", [[0, 1]])
        other = system_of_rows("aaa", [[0, 1, 2]])
        self.assertEqual(told_height(one, other, 1), ("unlike", ["dd"]))

    def test_three_marks_at_heights_of_one_to_four(self):
        found = []
        for turn, (one, other) in enumerate(some_pairs()):
            for high in range(1, 5):
                # At the greater heights the slow answers take long, so that not all systems are asked there.
                if turn % high == 0:
                    found.append((self.assert_told(one, other, high), high))
        for high in range(1, 5):
            for kind in ("alike", "unlike"):
                self.assertGreater(found.count((kind, high)), 15)

    def test_oracle_at_small_sizes(self):
        # The slow answers above go by columns; here all rows of marks are gone through.
        for one, other in list(some_pairs())[::9]:
            for high, widest in [(1, 4), (2, 2), (3, 1), (4, 1)]:
                told = told_height(one, other, high)
                for wide in range(1, widest + 1):
                    unlike = set(least_rows(one, high, wide)) ^ set(least_rows(other, high, wide))
                    if told[0] == "unlike" and wide == len(told[1][0]):
                        due = min([list(picture) for picture in unlike], key=columns_of)
                        self.assertEqual(told[1], due, (one, other))
                    elif told[0] == "alike" or wide < len(told[1][0]):
                        self.assertEqual(unlike, set())

    def test_four_letters(self):
        for turn in range(3):
            one = ("dbca", some_tiles(4, 40 + 20 * turn, turn + 3))
            for high in (1, 2):
                self.assert_told(one, with_order(one, [2, 0, 3, 1]), high)
                self.assert_told(one, with_tile_changed(one, turn), high)
                for other in [("abcd", every_tile(4)), ("cd", every_tile(2)), ("", [])]:
                    self.assert_told(one, other, high)

    def test_told_otherwise_is_alike(self):
        for turn, system in enumerate(some_systems()):
            for other in other_tellings(system, turn):
                for high in range(1, 5):
                    self.assertEqual(told_height(system, other, high)[0], "alike")
                    self.assertEqual(told_height(other, system, high)[0], "alike")

    def test_in_the_other_turn(self):
        for one, other in list(some_pairs())[::3]:
            for high in range(1, 4):
                told = told_height(one, other, high)
                back = told_height(other, one, high)
                if told[0] == "unlike":
                    self.assertEqual(told, back)
                else:
                    self.assertEqual(sorted(told[1]), sorted((left, right) for right, left in back[1]))

    def test_wider_than_twelve(self):
        self.assertEqual(told_height(system_of_counter(2, "aa"), ("", []), 4), ("unlike", ["a" * 16] * 4))
        self.assertEqual(told_height(("a", []), system_of_counter(3, "aab"), 3)[0], "unlike")
        picture = told_height(("a", []), system_of_counter(3, "aab"), 3)[1]
        digits = [[column // 3 ** (2 - row) % 3 for column in range(27)] for row in range(3)]
        self.assertEqual(picture, ["".join("aab"[digit] for digit in row) for row in digits])
        self.assertEqual(told_height(system_of_counter(2, "dd"), system_of_counter(2, "dd"), 4)[0], "alike")

    def test_wider_than_twelve_and_first_in_order(self):
        # Fourteen columns, one for each phase; the last one may be b or c, of one system alone.
        follows = [(phase, phase + 1) for phase in range(13)]
        one = system_of_phases("ab" * 6 + "aabc", list(range(13)) + [13, 13, 13], follows, [0], [13])
        other = system_of_phases("ab" * 6 + "aa", list(range(14)), follows, [0], [13])
        row = "ab" * 6 + "ab"
        self.assertEqual(told_height(one, other, 1), ("unlike", [row]))
        self.assertEqual(told_height(other, one, 3)[1], [row[:13] + "a", row[:13] + "a", row[:13] + "b"])
        self.assertEqual(told_height(one, one, 1)[0], "alike")

    def test_no_mark_and_no_tile(self):
        for one in NOTHING:
            for other in NOTHING:
                for high in range(1, 5):
                    begun = ((-1,) * high,)
                    self.assertEqual(told_height(one, other, high), ("alike", [(begun, begun)]))
            for high in range(1, 5):
                whole = ("db", every_tile(2))
                self.assertEqual(told_height(one, whole, high), ("unlike", ["b"] * high))
                self.assertEqual(told_height(whole, one, high), ("unlike", ["b"] * high))

    def test_sixteen_marks(self):
        letters = "abcd" * 4
        whole = (letters, every_tile(16))
        for high in (1, 2):
            kind, pairs = told_height(whole, ("abcd", every_tile(4)), high)
            self.assertEqual((kind, len(pairs)), ("alike", 1 + 4 ** high))
            self.assertIs(shows_alike(whole, ("abcd", every_tile(4)), high, pairs), True)
        kind, pairs = told_height(("a" * 16, every_tile(16)), ("a", every_tile(1)), 4)
        self.assertEqual((kind, len(pairs), len(pairs[1][0])), ("alike", 2, 16 ** 4))
        self.assertIs(shows_alike(("a" * 16, every_tile(16)), ("a", every_tile(1)), 4, pairs), True)
        self.assertEqual(told_height(whole, ("abc", every_tile(3)), 4), ("unlike", ["a", "a", "a", "d"]))

    def test_full_column(self):
        one = system_with_full_column()
        for high in range(1, 4):
            self.assertEqual(told_height(one, with_order(one, [4, 2, 0, 1, 3]), high)[0], "alike")
            self.assertEqual(told_height(one, ("ab", every_tile(2)), high), ("unlike", ["a"] * (high - 1) + ["b"]))

    def test_handed_in_stays_and_told_is_new(self):
        one = ("aab", some_tiles(3, 70, 2))
        for other in [with_order(one, [2, 1, 0]), ("ab", every_tile(2)), ("", [])]:
            handed = (one, other)
            before = copy.deepcopy(handed)
            first = told_height(one, other, 2)
            due = copy.deepcopy(first)
            first[1].append("more")
            self.assertEqual(told_height(one, other, 2), due)
            self.assertEqual(handed, before)


class ShowsAlike(unittest.TestCase):
    """[4.1]"""

    def assert_shown(self, one, other, high, pairs):
        """Against [4.1] reckoned anew; True or False."""
        due = are_shown_alike(ByColumns(one, high), ByColumns(other, high), pairs)
        self.assertIs(shows_alike(one, other, high, pairs), due, (one, other, pairs))
        return due

    def some_alike(self):
        for turn, system in enumerate(some_systems()):
            for other in other_tellings(system, turn):
                for high in range(1, 5):
                    pairs = told_height(system, other, high)[1]
                    if (turn + high) % 5 == 0 and len(pairs) < 25:
                        yield system, other, high, pairs

    def changed(self, half, marks, high):
        """Halves with a column fewer, one more, one of other marks, or in another turn."""
        columns = list(itertools.product(range(marks), repeat=high))
        found = [half[:k] + half[k + 1:] for k in range(len(half))]
        found += [tuple(sorted(half + (column,))) for column in columns[:5] if column not in half]
        found += [tuple(sorted(half[1:] + (half[0][:-1] + (field,),))) for field in range(-1, marks) if half]
        found += [half[::-1], half + half[-1:], half + ((-1,) * high,)]
        return [other for other in found if other != half]

    def test_told_pairs_in_any_turn(self):
        many = 0
        for one, other, high, pairs in self.some_alike():
            for turned in [pairs, pairs[::-1], pairs[1:] + pairs[:1], sorted(pairs), pairs + pairs]:
                self.assertTrue(self.assert_shown(one, other, high, turned))
            many += len(pairs) > 4
        self.assertGreater(many, 20)

    def test_one_left_out(self):
        for one, other, high, pairs in self.some_alike():
            for k in range(len(pairs)):
                self.assertFalse(self.assert_shown(one, other, high, pairs[:k] + pairs[k + 1:]))

    def test_one_changed(self):
        for one, other, high, pairs in self.some_alike():
            for k, (left, right) in list(enumerate(pairs))[::4]:
                for half in self.changed(left, len(one[0]), high):
                    changed = pairs[:k] + [(half, right)] + pairs[k + 1:]
                    self.assertFalse(self.assert_shown(one, other, high, changed))
                for half in self.changed(right, len(other[0]), high):
                    changed = pairs[:k] + [(left, half)] + pairs[k + 1:]
                    self.assertFalse(self.assert_shown(one, other, high, changed))

    def test_pairs_more(self):
        found = []
        for one, other, high, pairs in self.some_alike():
            self.assertTrue(self.assert_shown(one, other, high, pairs + [((), ())]))
            for left, right in pairs[::5]:
                for half in self.changed(left, len(one[0]), high):
                    found.append(self.assert_shown(one, other, high, pairs + [(half, right)]))
                found.append(self.assert_shown(one, other, high, pairs + [((), right)]))
                found.append(self.assert_shown(one, other, high, pairs + [(left, ())]))
        self.assertGreater(found.count(True), 50)
        self.assertGreater(found.count(False), 50)

    def test_pairs_more_that_go_on(self):
        # From each column by itself, with all that is come to from there.
        some = 0
        for one, other, high, pairs in self.some_alike():
            plain = [ByColumns(system, high) for system in (one, other)]
            for columns in list(zip(plain[0].all_columns(), plain[1].all_columns()))[::5]:
                more = pairs_reached(*plain, ((columns[0],), (columns[1],)))
                some += self.assert_shown(one, other, high, pairs + sorted(more))
        self.assertGreater(some, 50)

    def test_unlike_at_no_pairs(self):
        unlike = 0
        for one, other in list(some_pairs())[::2]:
            for high in (1, 2):
                if told_height(one, other, high)[0] == "unlike":
                    unlike += 1
                    pairs = sorted(pairs_reached(ByColumns(one, high), ByColumns(other, high)))
                    self.assertFalse(self.assert_shown(one, other, high, pairs))
                    self.assertFalse(self.assert_shown(one, other, high, [((), ())]))
        self.assertGreater(unlike, 20)

    def test_pairs_of_other_systems(self):
        cases = list(self.some_alike())
        found = []
        for turn, (one, other, high, pairs) in enumerate(cases):
            for step in (1, 2, 5, 11):
                others = cases[(turn + step) % len(cases)]
                if others[2] == high:
                    found.append(self.assert_shown(one, other, high, others[3]))
                elif len(others[3]) > 0:
                    self.assertIs(shows_alike(one, other, high, others[3]), False)
        self.assertGreater(found.count(False), 20)

    def test_the_last_column_by_hand(self):
        # Both have the same columns; just one may end behind them.
        tiles = [(-1, -1, -1, 0), (-1, -1, 0, -1), (-1, 0, -1, -1), (0, -1, -1, -1)]
        begun = ((-1,),)
        pairs = [(begun, begun), (((0,),), ((0,),))]
        self.assertIs(shows_alike(("a", tiles), ("a", tiles), 1, pairs), True)
        for missing in ((-1, -1, 0, -1), (0, -1, -1, -1)):
            other = ("a", [tile for tile in tiles if tile != missing])
            self.assertIs(shows_alike(("a", tiles), other, 1, pairs), False)
            self.assertIs(shows_alike(other, ("a", tiles), 1, pairs), False)
            self.assertIs(shows_alike(other, other, 1, pairs), True)

    def test_no_pairs_and_nothing_let_by(self):
        for one in NOTHING:
            for other in NOTHING:
                for high in range(1, 5):
                    begun = ((-1,) * high,)
                    self.assertIs(shows_alike(one, other, high, [(begun, begun)]), True)
                    self.assertIs(shows_alike(one, other, high, [((), ()), (begun, begun)]), True)
                    self.assertIs(shows_alike(one, other, high, []), False)
                    self.assertIs(shows_alike(one, other, high, [((), ())]), False)
                    self.assertIs(shows_alike(one, other, high, [(begun, ()), ((), begun)]), False)
                    short = ((-1,) * (high + 1),)
                    self.assertIs(shows_alike(one, other, high, [(short, short)]), False)

    def test_columns_that_no_system_has(self):
        # Nothing stands behind them, so that as pairs more they do no harm; in the place of others they do.
        one = ("ab", every_tile(2))
        pairs = told_height(one, one, 2)[1]
        for column in [(0,), (0, 0, 0), (), (2, 0), (0, 2), (-2, 0), (LONG, LONG), (-LONG, 1)]:
            self.assertIs(shows_alike(one, one, 2, pairs + [((column,), ())]), True, column)
            self.assertIs(shows_alike(one, one, 2, pairs + [((), (column,))]), True, column)
            for k in range(len(pairs)):
                half = tuple(sorted(pairs[k][0] + (column,)))
                self.assertIs(shows_alike(one, one, 2, pairs[:k] + [(half, pairs[k][1])] + pairs[k + 1:]), False)

    def test_handed_in_stays(self):
        one = ("aab", some_tiles(3, 70, 2))
        other = with_order(one, [2, 1, 0])
        pairs = told_height(one, other, 2)[1]
        for told in [pairs, pairs[1:], pairs[::-1] + [((), ())], []]:
            handed = (one, other, 2, told)
            before = copy.deepcopy(handed)
            shows_alike(*handed)
            self.assertEqual(handed, before)


class Parted(unittest.TestCase):
    """[4.2]"""

    def system_of_rows_high(self, highs):
        """Lets by just the pictures of a as high as one of the numbers, 1 to 6."""
        follows = [(phase, phase + 1) for phase in range(5)]
        return system_of_heights("a" * 6, list(range(6)), follows, [0], [high - 1 for high in highs])

    def test_the_first_height_by_hand(self):
        for high in range(1, 5):
            one = self.system_of_rows_high(range(1, 7))
            other = self.system_of_rows_high([k for k in range(1, 7) if k != high and k != 4])
            for most in [4, 5, 6, LONG]:
                self.assertEqual(parted(one, other, most), ["a"] * high)
                self.assertEqual(parted(other, one, most), ["a"] * high)
            self.assertEqual(parted(one, other, high), ["a"] * high)
            for most in [high - 1, 0, -1, -5, -LONG]:
                self.assertIsNone(parted(one, other, most))

    def test_unlike_at_a_greater_height_alone(self):
        one = self.system_of_rows_high([1, 3, 5])
        other = self.system_of_rows_high([1, 3, 6])
        for pair in [(one, other), (other, one), (one, one), (("", []), ("d", []))]:
            for most in range(-1, 5):
                self.assertIsNone(parted(*pair, most))
            for most in [5, 6, 13, LONG]:
                self.assertRaises(BadSize, parted, *pair, most)
            self.assertIsNone(parted(*pair, -LONG))

    def test_like_told_height_at_each(self):
        found = []
        for one, other in list(some_pairs())[::3]:
            told = [told_height(one, other, high) for high in range(1, 5)]
            pictures = [value for kind, value in told if kind == "unlike"]
            for most in range(7):
                due = [picture for picture in pictures if len(picture) <= most]
                if due:
                    self.assertEqual(parted(one, other, most), due[0])
                elif most <= 4:
                    self.assertIsNone(parted(one, other, most))
                else:
                    self.assertRaises(BadSize, parted, one, other, most)
            found.append(len(pictures[0]) if pictures else None)
        self.assertEqual(set(found), {None, 1, 2, 3, 4} & set(found))
        for high in (None, 1, 2):
            self.assertGreater(found.count(high), 3)

    def test_what_parts_is_let_by_one_alone(self):
        for one, other in some_pairs():
            picture = parted(one, other, 3)
            if picture is not None and len(picture[0]) <= 12:
                self.assertNotEqual(lets(one, picture) is None, lets(other, picture) is None)

    def test_wider_than_twelve(self):
        follows = [(phase, phase + 1) for phase in range(13)]
        one = system_of_phases("ab" * 7, list(range(14)), follows, [0], [13])
        for other in NOTHING:
            for most in [1, 4, 5, LONG]:
                self.assertEqual(parted(one, other, most), ["ab" * 7])

    def test_handed_in_stays_and_told_is_new(self):
        one = ("aab", some_tiles(3, 70, 2))
        for other in [one, ("ab", every_tile(2)), ("", [])]:
            handed = (one, other)
            before = copy.deepcopy(handed)
            first = parted(one, other, 4)
            if first is not None:
                due = list(first)
                first.append("more")
                self.assertEqual(parted(one, other, 4), due)
            self.assertEqual(handed, before)


class Oracles(unittest.TestCase):
    def test_words_by_columns_and_by_rows(self):
        for system in list(some_systems())[::3]:
            for high, wide in [(1, 3), (2, 2), (4, 1)]:
                words = ByColumns(system, high).words(wide)
                self.assertEqual({tuple(rows_of_word(word)) for word in words}, set(least_rows(system, high, wide)))


if __name__ == "__main__":
    unittest.main()
