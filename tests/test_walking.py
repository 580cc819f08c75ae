import itertools
import unittest

from oracles import ByColumns
from quiltyard.walking import FieldSets, columns_that_end, walk_left, walk_right
from samples import some_tiles


def number_of_tuples(sets, tuples):
    """The number that FieldSets has for a set of tuples, all of one length."""
    depth = len(min(tuples, default=(0,))) - 1
    number = 0
    for fields in sorted(tuples):
        number = sets.in_either(depth, number, sets.of_one(list(fields)))
    return number


def tuples_of_number(sets, depth, number):
    if depth == 0:
        return [(field,) for field in range(-1, 16) if number >> (field + 1) & 1]
    return [(field,) + rest for field, part in sets.branches[number]
            for rest in tuples_of_number(sets, depth - 1, part)]


def samples_of(depth):
    """Sets of tuples of three fields, of the border and two marks."""
    whole = list(itertools.product([-1, 0, 15], repeat=depth + 1))
    found = [set(), set(whole), set(whole[:1]), set(whole[-1:])]
    for step in range(2, 8):
        found += [set(whole[turn::step]) for turn in range(2)]
    return found


class Sets(unittest.TestCase):
    def test_like_sets_of_tuples(self):
        for depth in range(4):
            sets = FieldSets()
            for one in samples_of(depth):
                number = number_of_tuples(sets, one)
                self.assertEqual(tuples_of_number(sets, depth, number), sorted(one))
                self.assertEqual(sets.tuples_in(depth, number), sorted(one))
                for tuples in [sorted(one), sorted(one)[::-1], sorted(one) * 2]:
                    self.assertEqual(sets.of_all(depth, tuples), number)
                self.assertEqual(number == 0, one == set())
                if one:
                    self.assertEqual(sets.least(depth, number), min(one))
                for other in samples_of(depth):
                    behind = number_of_tuples(sets, other)
                    self.assertEqual(number == behind, one == other)
                    self.assertEqual(sets.in_either(depth, number, behind), number_of_tuples(sets, one | other))
                    self.assertEqual(sets.in_both(depth, number, behind), number_of_tuples(sets, one & other))
                for firsts in [[], [-1], [0], [15], [-1, 15], [-1, 0, 15], [3]]:
                    bits = sum(1 << (field + 1) for field in firsts)
                    due = {fields for fields in one if fields[0] in firsts}
                    self.assertEqual(sets.with_first(depth, number, bits), number_of_tuples(sets, due))

    def test_same_numbers_at_another_depth_are_another_set(self):
        sets = FieldSets()
        found = {}
        for depth in range(4):
            for one in samples_of(depth):
                if depth > 0 and one:
                    found.setdefault(number_of_tuples(sets, one), []).append(sorted(one))
        for tuples in found.values():
            self.assertTrue(all(one == tuples[0] for one in tuples))


class Walks(unittest.TestCase):
    LETTERS = "aab"

    def all_columns(self, high):
        return ["".join(column) for column in itertools.product("ab", repeat=high)]

    def test_behind_like_columns_written_out(self):
        for high in range(1, 5):
            for turn, share in enumerate([30, 60, 90]):
                system = (self.LETTERS, some_tiles(3, share, turn + high, 85))
                plain = ByColumns(system, high)
                sets = FieldSets()
                walk = walk_right(sets, system, high)
                left = walk_left(sets, system, high)
                begun = walk.beginning()
                self.assertEqual(tuples_of_number(sets, high - 1, begun), [plain.edge()])
                for column in self.all_columns(high):
                    first = walk.behind(begun, column)
                    due = plain.behind((plain.edge(),), column)
                    self.assertEqual(tuples_of_number(sets, high - 1, first), list(due))
                    last = left.behind(begun, column)
                    ends = [marks for marks in plain.marked(column) if plain.fits(marks, plain.edge())]
                    self.assertEqual(tuples_of_number(sets, high - 1, last), ends)
                    for other in self.all_columns(high)[::3]:
                        second = walk.behind(first, other)
                        self.assertEqual(tuples_of_number(sets, high - 1, second), list(plain.behind(due, other)))

    def test_several_letters_to_choose_from(self):
        system = (self.LETTERS, some_tiles(3, 50, 5, 85))
        for high in range(1, 4):
            sets = FieldSets()
            walk = walk_right(sets, system, high)
            due = 0
            for column in self.all_columns(high):
                due = sets.in_either(high - 1, due, walk.behind(walk.beginning(), column))
            self.assertNotEqual(due, 0)
            self.assertEqual(walk.behind(walk.beginning(), ["abcd"] * high), due)
            self.assertEqual(walk.behind(walk.beginning(), ["cd"] * high), 0)

    def test_columns_that_end(self):
        system = (self.LETTERS, some_tiles(3, 40, 6, 85))
        for high in range(1, 4):
            sets = FieldSets()
            plain = ByColumns(system, high)
            told = columns_that_end(sets, system, high, [["ab"] * high] * 3)
            columns = list(itertools.product(range(3), repeat=high))
            due = [marks for marks in columns if plain.fits(marks, plain.edge())]
            for number in told[::-1]:
                self.assertEqual(tuples_of_number(sets, high - 1, number), due)
                due = [marks for marks in columns if any(plain.fits(marks, other) for other in due)]


if __name__ == "__main__":
    unittest.main()
