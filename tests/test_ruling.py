import copy
import inspect
import itertools
import unittest

from oracles import ByColumns, is_rule_shown, keeps_rule, least_rows
from quiltyard.errors import BadSize
from quiltyard.letting import lets
from quiltyard.pictures import columns_of
from quiltyard.ruling import ruled, shows_rule
from samples import (every_tile, some_tiles, system_of_counter, system_of_phases, system_of_rows,
                     system_with_full_column)

LONG = 10 ** 15 - 1
WIDEST = {1: 8, 2: 4, 3: 3, 4: 2}
TEXTS = ["ab", "a", "", "abcd", "b", "bdb", "dcba", "aa", "cd", "ba"]
NOTHING = [("", []), ("", [(-1, -1, -1, -1)]), ("a", []), ("bab", [(-1, -1, -1, -1)])]


def some_systems():
    """Of up to three marks for two letters."""
    turn = 70
    for letters in ["a", "b", "aa", "ab", "ba", "aab", "aba", "bba", "bab", "aaa"]:
        for share, edge_share in [(25, 80), (35, 100), (55, 75), (75, 100), (90, 85), (20, 60)]:
            turn += 1
            yield (letters, some_tiles(len(letters), share, turn, edge_share))


def some_rules(high, turn):
    """Rules of texts in turn, and some of them that mostly hold."""
    found = [["abcd"] * high, [""] * high]
    for k in range(3):
        found.append([TEXTS[(turn * 3 + k * 5 + row * (k + 1)) % len(TEXTS)] for row in range(high)])
    row = turn % high
    found.append(["ba"] * row + ["a"] + ["dcab"] * (high - row - 1))
    found.append(["ba"] * row + ["bb"] + ["dcab"] * (high - row - 1))
    return found


class Ruled(unittest.TestCase):
    """[6.1], [6.3], [0.2]"""

    def assert_broken(self, system, high, rule, picture):
        """It is let by and breaks the rule, and none that is narrower, or as wide and ahead of it, is such."""
        plain = ByColumns(system, high)
        word = tuple("".join(column) for column in zip(*picture))
        self.assertEqual(len(picture), high)
        self.assertIsNotNone(plain.lets(picture), (system, rule, picture))
        self.assertFalse(keeps_rule(rule, word), (system, rule, picture))
        for wide in range(1, min(len(word), WIDEST[high] + 1)):
            self.assertTrue(all(keeps_rule(rule, other) for other in plain.words(wide)), (system, rule, picture))
        if len(word) <= WIDEST[high]:
            broken = [other for other in plain.words(len(word)) if not keeps_rule(rule, other)]
            self.assertEqual(min(broken), word, (system, rule))

    def assert_holds(self, system, high, rule, paper):
        plain = ByColumns(system, high)
        self.assertIsInstance(paper, tuple)
        self.assertEqual([part.__class__ for part in paper], [list, list])
        self.assertTrue(is_rule_shown(plain, rule, paper), (system, rule, paper))
        self.assertIs(shows_rule(system, high, rule, paper), True)
        for wide in range(1, WIDEST[high] + 1):
            self.assertTrue(all(keeps_rule(rule, word) for word in plain.words(wide)), (system, rule))

    def assert_ruled(self, system, high, rule):
        told = ruled(system, high, rule)
        self.assertIsInstance(told, tuple)
        self.assertEqual(len(told), 2)
        if told[0] == "broken":
            self.assert_broken(system, high, rule, told[1])
        else:
            self.assertEqual(told[0], "holds")
            self.assert_holds(system, high, rule, told[1])
        return told[0]

    def test_arguments(self):
        self.assertEqual(list(inspect.signature(ruled).parameters), ["system", "high", "rule"])
        self.assertEqual(list(inspect.signature(shows_rule).parameters), ["system", "high", "rule", "paper"])

    def test_one_picture_by_hand(self):
        system = system_of_rows("abcd", [[0, 1], [2, 3]])
        for rule in [["ab", "cd"], ["ba", "dc"], ["abcd", "abcd"], ["aabb", "dcd"]]:
            kind, paper = ruled(system, 2, rule)
            self.assertEqual((kind, sorted(paper[0])), ("holds", [(0, 2), (1, 3)]))
        for rule in [["a", "cd"], ["b", "cd"], ["ab", "c"], ["ab", "d"], ["ab", "ab"], ["", "cd"], ["cd", "ab"]]:
            self.assertEqual(ruled(system, 2, rule), ("broken", ["ab", "cd"]))
        # At other heights nothing is let by, so that each rule holds.
        for high in (1, 3, 4):
            self.assertEqual(ruled(system, high, [""] * high)[0], "holds")

    def test_order_is_by_columns_by_hand(self):
        # By rows the second picture would come first.
        letters, tiles = system_of_rows("ababaabb", [[0, 1], [2, 3]], [[4, 5], [6, 7]])
        self.assertEqual(ruled((letters, tiles), 2, ["", ""]), ("broken", ["ab", "ab"]))
        self.assertEqual(ruled((letters, tiles), 2, ["ab", "ab"])[0], "holds")
        self.assertEqual(ruled((letters, tiles), 2, ["ab", "b"]), ("broken", ["ab", "ab"]))
        self.assertEqual(ruled((letters, tiles), 2, ["a", "ab"]), ("broken", ["ab", "ab"]))

    def test_narrower_comes_ahead_of_order_by_hand(self):
        system = system_of_rows("ddaab", [[0, 1]], [[2, 3, 4]])
        self.assertEqual(ruled(system, 1, [""]), ("broken", ["dd"]))
        self.assertEqual(ruled(system, 1, ["d"]), ("broken", ["aab"]))
        self.assertEqual(ruled(system, 1, ["da"]), ("broken", ["aab"]))
        self.assertEqual(ruled(system, 1, ["dba"])[0], "holds")

    def test_before_the_letter_and_behind_it_by_hand(self):
        # All rows of a, b and c: what keeps the rule comes first where it can, and the least letters stand ahead.
        # Here c may stand but between two others, a or b.
        marks = [mark for mark in range(3)]
        rows = [[first, 2, last] for first in marks[:2] for last in marks[:2]] + [[0], [1], [0, 0], [0, 1], [1, 0]]
        system = system_of_rows("abc", *[[row] for row in rows])
        self.assertEqual(ruled(system, 1, ["ab"]), ("broken", ["aca"]))
        self.assertEqual(ruled(system, 1, ["bc"]), ("broken", ["a"]))
        self.assertEqual(ruled(system, 1, ["a"]), ("broken", ["b"]))
        self.assertEqual(ruled(system, 1, ["cab"])[0], "holds")

    def test_broken_column_ends_up_late(self):
        # Least letters ahead of the column that breaks the rule, and behind it.
        follows = [(0, 0), (0, 1), (1, 2), (2, 2)]
        system = system_of_phases("abcba", [0, 0, 1, 2, 2], follows, [0], [2])
        self.assertEqual(ruled(system, 1, ["ab"]), ("broken", ["aca"]))
        self.assertEqual(ruled(system, 2, ["ab", "abcd"]), ("broken", ["aca", "aca"]))
        self.assertEqual(ruled(system, 2, ["bc", "abcd"]), ("broken", ["aca", "aca"]))
        self.assertEqual(ruled(system, 2, ["abc", "cba"])[0], "holds")

    def test_columns_that_lead_nowhere_may_break_it(self):
        # Mark 1 may stand first and go on for ever, but no row ends behind it.
        letters, tiles = system_of_rows("ab", [[0, 0]])
        more = [(-1, -1, -1, 1), (-1, 1, -1, -1), (-1, -1, 1, 1), (1, 1, -1, -1)]
        system = (letters, sorted(tiles + more))
        kind, paper = ruled(system, 1, ["a"])
        self.assertEqual(kind, "holds")
        self.assertIn((1,), paper[0])
        self.assertIn((1,), paper[1])
        self.assertIs(shows_rule(system, 1, ["a"], paper), True)

    def test_three_marks_at_heights_of_one_to_four(self):
        found = []
        for turn, system in enumerate(some_systems()):
            for high in range(1, 5):
                for rule in some_rules(high, turn):
                    found.append((self.assert_ruled(system, high, rule), high))
        for high in range(1, 5):
            for kind in ("holds", "broken"):
                self.assertGreater(found.count((kind, high)), 50)

    def test_against_all_rows_of_marks(self):
        for turn, system in enumerate(list(some_systems())[::4]):
            for high, widest in [(1, 4), (2, 2), (3, 1), (4, 1)]:
                for rule in some_rules(high, turn):
                    told = ruled(system, high, rule)
                    for wide in range(1, widest + 1):
                        pictures = [list(picture) for picture in least_rows(system, high, wide)]
                        broken = [picture for picture in pictures if not keeps_rule(rule, columns_of(picture))]
                        if told[0] == "broken" and wide == len(told[1][0]):
                            self.assertEqual(told[1], min(broken, key=columns_of), (system, rule))
                        elif told[0] == "holds" or wide < len(told[1][0]):
                            self.assertEqual(broken, [])

    def test_four_letters(self):
        found = []
        for turn in range(5):
            system = ("dbca", some_tiles(4, 8 + 20 * turn, turn + 5, 80))
            for high in (1, 2):
                for rule in [["abc"] * high, ["abcd"] * high, ["cd"] + ["ab"] * (high - 1), ["dbac"] + [""] * (high - 1)]:
                    found.append(self.assert_ruled(system, high, rule))
        self.assertEqual(set(found), {"holds", "broken"})

    def test_letters_twice_and_in_any_turn(self):
        for turn, system in enumerate(list(some_systems())[::3]):
            for high in (1, 2, 3):
                for text in ["ab", "a", "b", "abc"]:
                    due = ruled(system, high, [text] * high)
                    for other in [text[::-1], text + text, text[-1] + text, text + "d", text[::-1] + "dc"]:
                        told = ruled(system, high, [other] * high)
                        self.assertEqual(told, due, (system, other))

    def test_wider_than_twelve(self):
        self.assertEqual(ruled(system_of_counter(2, "aa"), 4, ["abcd", "abcd", "abcd", "b"]),
                         ("broken", ["a" * 16] * 4))
        digits = [[column // 3 ** (2 - row) % 3 for column in range(27)] for row in range(3)]
        due = ["".join("abd"[digit] for digit in row) for row in digits]
        self.assertEqual(ruled(system_of_counter(3, "abd"), 3, ["abc", "abcd", "abcd"]), ("broken", due))
        self.assertEqual(ruled(system_of_counter(3, "abd"), 3, ["abd", "abd", "abd"])[0], "holds")
        # Fourteen columns, of which the last may be a or b or c.
        follows = [(phase, phase + 1) for phase in range(13)]
        system = system_of_phases("ab" * 6 + "aabc", list(range(13)) + [13, 13, 13], follows, [0], [13])
        row = "ab" * 6 + "a"
        self.assertEqual(ruled(system, 1, ["ab"]), ("broken", [row + "c"]))
        self.assertEqual(ruled(system, 1, ["ac"]), ("broken", [row + "a"]))
        self.assertEqual(ruled(system, 2, ["abc", "ab"]), ("broken", [row + "a", row + "c"]))
        self.assertEqual(ruled(system, 2, ["ab", "abc"]), ("broken", [row + "c", row + "a"]))
        self.assertEqual(ruled(system, 2, ["abc", "cba"])[0], "holds")

    def test_no_mark_and_no_tile(self):
        for system in NOTHING:
            for high in range(1, 5):
                for rule in [[""] * high, ["abcd"] * high, ["a"] * high]:
                    self.assertEqual(ruled(system, high, rule), ("holds", ([], [])))
                    self.assertIs(shows_rule(system, high, rule, ([], [])), True)

    def test_sixteen_marks(self):
        whole = ("abcd" * 4, every_tile(16))
        for high in (1, 2, 3):
            kind, paper = ruled(whole, high, ["dcba"] * high)
            self.assertEqual((kind, len(paper[0]), paper[1]), ("holds", 16 ** high, []))
            self.assertIs(shows_rule(whole, high, ["dcba"] * high, paper), True)
        self.assertEqual(ruled(whole, 4, ["abc", "abcd", "abcd", "abcd"]), ("broken", ["d", "a", "a", "a"]))
        self.assertEqual(ruled(whole, 4, ["abcd", "abcd", "abcd", "bcd"]), ("broken", ["a"] * 4))

    def test_sixteen_marks_of_some_tiles(self):
        for share in (2, 8, 30):
            system = ("abcd" * 4, some_tiles(16, share, share, 70))
            for high, rule in [(3, ["abc", "abcd", "abcd"]), (4, ["abcd"] * 3 + ["bcd"]), (2, ["dbac", "abcd"])]:
                kind, value = ruled(system, high, rule)
                if kind == "holds":
                    self.assertIs(shows_rule(system, high, rule, value), True)
                else:
                    self.assertIsNotNone(lets(system, value))
                    self.assertFalse(keeps_rule(rule, columns_of(value)))

    def test_full_column(self):
        system = system_with_full_column()
        self.assertEqual(ruled(system, 2, ["ab", "a"]), ("broken", ["aa", "ab"]))
        self.assertEqual(ruled(system, 2, ["a", "ab"]), ("broken", ["ab", "aa"]))
        self.assertEqual(ruled(system, 2, ["b", "ab"]), ("broken", ["a", "a"]))
        self.assertEqual(ruled(system, 2, ["ab", "ab"])[0], "holds")

    def test_handed_in_stays_and_told_is_new(self):
        for system in [("aab", some_tiles(3, 70, 2)), ("aab", some_tiles(3, 20, 3, 50)), ("", [])]:
            for rule in [["ab", "ba"], ["a", "abcd"], ["", ""]]:
                handed = (system, 2, rule)
                before = copy.deepcopy(handed)
                first = ruled(*handed)
                due = copy.deepcopy(first)
                for part in first[1:] if first[0] == "broken" else first[1]:
                    part.append("more")
                self.assertEqual(ruled(*handed), due)
                self.assertEqual(handed, before)


class ShowsRule(unittest.TestCase):
    """[6.2]"""

    def assert_shown(self, system, high, rule, paper):
        """Against [6.2] reckoned anew; True or False."""
        due = is_rule_shown(ByColumns(system, high), rule, paper)
        self.assertIs(shows_rule(system, high, rule, paper), due, (system, rule, paper))
        return due

    def some_papers(self):
        for turn, system in enumerate(some_systems()):
            for high in range(1, 5):
                for rule in some_rules(high, turn):
                    kind, value = ruled(system, high, rule)
                    if kind == "holds" and (turn + high) % 3 == 0 and len(value[0]) < 20:
                        yield system, high, rule, value

    def test_told_papers_in_any_turn_and_twice(self):
        many = 0
        for system, high, rule, (first, second) in self.some_papers():
            for paper in [(first, second), (first[::-1], second), (first, second[::-1]), (first + first, second),
                          (first, second + second[:1]), (first[1:] + first[:1], second + second)]:
                self.assertTrue(self.assert_shown(system, high, rule, paper))
            many += len(first) > 3
        self.assertGreater(many, 20)

    def test_columns_left_out(self):
        found = []
        for system, high, rule, (first, second) in self.some_papers():
            for k in range(len(first)):
                found.append(self.assert_shown(system, high, rule, (first[:k] + first[k + 1:], second)))
                self.assertFalse(found[-1])
            for k in range(len(second)):
                found.append(self.assert_shown(system, high, rule, (first, second[:k] + second[k + 1:])))
            found.append(self.assert_shown(system, high, rule, (first, [])))
            found.append(self.assert_shown(system, high, rule, ([], second)))
            found.append(self.assert_shown(system, high, rule, ([], [])))
        self.assertGreater(found.count(True), 20)
        self.assertGreater(found.count(False), 20)

    def test_columns_put_in_and_put_elsewhere(self):
        found = []
        for system, high, rule, (first, second) in self.some_papers():
            columns = list(itertools.product(range(len(system[0])), repeat=high))
            for column in columns[::len(columns) // 6 + 1]:
                found.append(self.assert_shown(system, high, rule, (first + [column], second)))
                found.append(self.assert_shown(system, high, rule, (first, [column] + second)))
            for column in second:
                others = [other for other in second if other != column]
                self.assert_shown(system, high, rule, (first + [column], others))
            found.append(self.assert_shown(system, high, rule, (second, first)))
            found.append(self.assert_shown(system, high, rule, (first, first)))
            found.append(self.assert_shown(system, high, rule, (first + second, second)))
            found.append(self.assert_shown(system, high, rule, (columns, second)))
            found.append(self.assert_shown(system, high, rule, (columns, columns)))
        self.assertGreater(found.count(True), 50)
        self.assertGreater(found.count(False), 50)

    def test_other_rules_and_other_systems(self):
        cases = list(self.some_papers())
        found = []
        for turn, (system, high, rule, paper) in enumerate(cases):
            for other in some_rules(high, turn + 1):
                found.append(self.assert_shown(system, high, other, paper))
            others = cases[(turn * 11 + 5) % len(cases)]
            self.assert_shown(others[0], others[1], others[2], paper)
        self.assertGreater(found.count(True), 50)
        self.assertGreater(found.count(False), 50)

    def test_columns_that_are_none(self):
        # Each rule holds of them, and nothing stands behind them: their form alone is at fault.
        for system, high, rule in [(("ab", every_tile(2)), 2, ["ab", "ab"]), (("a", []), 1, ["a"]),
                                   (("bab", some_tiles(3, 50, 9)), 3, ["abcd"] * 3)]:
            first, second = ruled(system, high, rule)[1]
            marks = len(system[0])
            self.assertIs(shows_rule(system, high, rule, (first, second)), True)
            bad = [(), (0,) * (high - 1), (0,) * (high + 1), (0,) * 9]
            for field in [-1, -2, marks, marks + 1, 16, LONG, -LONG]:
                bad += [(0,) * row + (field,) + (0,) * (high - row - 1) for row in range(high)]
                bad.append((field,) * high)
            for column in bad:
                for paper in [(first + [column], second), ([column] + first, second), (first, second + [column]),
                              (first + [column], second + [column])]:
                    self.assertIs(shows_rule(system, high, rule, paper), False, column)

    def test_by_hand(self):
        # Mark 0 goes on and ends; mark 1, for b, goes on behind itself and does not end; mark 2 stands nowhere.
        letters, tiles = system_of_rows("aba", [[0, 0]])
        more = [(-1, -1, -1, 1), (-1, 1, -1, -1), (-1, -1, 1, 1), (1, 1, -1, -1)]
        system = (letters, sorted(tiles + more))
        for paper, due in [(([(0,), (1,)], [(1,)]), True), (([(0,), (1,)], []), False), (([(0,)], [(1,)]), False),
                           (([(1,)], [(1,)]), False), (([(0,), (1,)], [(0,), (1,)]), False),
                           (([(0,), (1,), (2,)], [(1,)]), True), (([(0,), (1,)], [(1,), (2,)]), True),
                           (([(0,), (1,), (2,)], [(2,), (1,)]), True), (([(1,), (0,), (1,)], [(1,), (1,)]), True),
                           (([], []), False), (([(0,), (1,)], [(0,)]), False)]:
            self.assertIs(shows_rule(system, 1, ["a"], paper), due, paper)
        # Where b may stand, too, the second list need not be there.
        self.assertIs(shows_rule(system, 1, ["ba"], ([(0,), (1,)], [])), True)
        self.assertIs(shows_rule(system, 1, [""], ([(0,), (1,)], [(1,)])), False)

    def test_second_list_has_to_go_on_within_itself(self):
        # Behind mark 1 stands mark 2, and just mark 2 may be the last one.
        rows = [[0, 1, 2]]
        letters, tiles = system_of_rows("bba", rows)
        every = [(0,), (1,), (2,)]
        self.assertIs(shows_rule((letters, tiles), 1, ["a"], (every, [(0,), (1,)])), False)
        self.assertIs(shows_rule((letters, tiles), 1, ["a"], (every, every)), False)
        endless = (letters, [tile for tile in tiles if tile != (-1, -1, 2, -1)])
        self.assertIs(shows_rule(endless, 1, ["a"], (every, every)), True)
        self.assertIs(shows_rule(endless, 1, ["a"], (every, [(0,), (1,)])), False)
        self.assertIs(shows_rule(endless, 1, ["a"], (every, [(1,), (2,)])), False)
        self.assertIs(shows_rule(endless, 1, ["ba"], (every, [(1,), (2,)])), True)

    def test_empty_paper(self):
        for turn, system in enumerate(some_systems()):
            for high in range(1, 4):
                self.assert_shown(system, high, ["a"] * high, ([], []))
        for system in NOTHING:
            self.assertIs(shows_rule(system, 2, ["", ""], ([], [])), True)
        self.assertIs(shows_rule(("a", every_tile(1)), 2, ["a", "a"], ([], [])), False)

    def test_handed_in_stays(self):
        system = ("aab", some_tiles(3, 30, 2, 60))
        for paper in [([], []), ([(0, 1), (0, 1)], [(2, 2)]), ([(5, 5)], [(0,)])]:
            handed = (system, 2, ["ab", "a"], paper)
            before = copy.deepcopy(handed)
            shows_rule(*handed)
            self.assertEqual(handed, before)


class BadRules(unittest.TestCase):
    """[6.1]: BadSize of rules that are none."""

    def bad_rules(self, high):
        found = [["a"] * many for many in range(7) if many != high] + [[""] * (high + 1), [""] * (high - 1)]
        for sign in ["e", "A", "D", "z", "`", " ", "0", "\n", "#", "-"]:
            for row in range(high):
                for text in [sign, "a" + sign, sign + "d", "ab" + sign + "c"]:
                    found.append(["abcd"] * row + [text] + ["abcd"] * (high - row - 1))
        return found

    def test_rules_that_are_none(self):
        for high in range(1, 5):
            for rule in self.bad_rules(high):
                for system in [("ab", every_tile(2)), ("", [])]:
                    self.assertRaises(BadSize, ruled, system, high, rule)
                    for paper in [([], []), ([(0,) * high], []), ([(9,)], [])]:
                        self.assertRaises(BadSize, shows_rule, system, high, rule, paper)

    def test_behind_the_height(self):
        # A rule of as many texts as the height says is of no use where the height is none.
        for high in [0, -1, 5, 6, LONG, -LONG]:
            for rule in [["a"] * min(max(high, 0), 9), [], ["a"], ["a"] * 4, ["a"] * 5, ["e"]]:
                self.assertRaises(BadSize, ruled, ("ab", every_tile(2)), high, rule)
                self.assertRaises(BadSize, shows_rule, ("ab", every_tile(2)), high, rule, ([], []))


if __name__ == "__main__":
    unittest.main()
