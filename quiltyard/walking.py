"""Going from column to column of marks, with whole sets of columns at once.

While a column is laid from the top, a front is what its next field may depend on: the fields that lie already,
the field of the column ahead that is left of the lowest of these, and those of the column ahead below it.
"""

from quiltyard.pictures import LETTERS
from quiltyard.systems import BORDER, mirrored_tiles


def bit_of(field):
    # The border is -1, so that all bits stand one higher.
    return 1 << (field + 1)


def least_field(bits):
    return (bits & -bits).bit_length() - 2


def fields_in(bits):
    return [field for field in range(BORDER, bits.bit_length() - 1) if bits & bit_of(field)]


class FieldSets:
    # Sets of tuples of fields, each known by a number that no other set of as long tuples has.
    # Written out, a set may have 16 ** 5 tuples; here what goes on alike behind several fields is kept once.
    # Depth is how many fields stand behind the first one. At depth 0 the number is a bit for each field; at others
    # it is the place of the set's branches, pairs of a first field and the number of what stands behind it. The
    # number of the empty set is 0.

    def __init__(self):
        self.branches = [()]
        self.known = {}
        self.either_known = {}
        self.both_known = {}
        self.first_known = {}

    def number_for(self, depth, branches):
        found = tuple([branch for branch in branches if branch[1] != 0])
        if found == ():
            return 0
        # With the depth, for the same number means another set there.
        name = (depth, found)
        if name not in self.known:
            self.known[name] = len(self.branches)
            self.branches.append(found)
        return self.known[name]

    def of_one(self, fields):
        number = bit_of(fields[-1])
        for depth in range(1, len(fields)):
            number = self.number_for(depth, [(fields[-1 - depth], number)])
        return number

    def of_all(self, depth, tuples):
        # The tuples may come in any turn, and more than once.
        rests = {}
        for fields in tuples:
            rests.setdefault(fields[0], []).append(fields[1:])
        if depth == 0:
            return sum([bit_of(field) for field in rests])
        return self.number_for(depth, [(field, self.of_all(depth - 1, rests[field])) for field in sorted(rests)])

    def tuples_in(self, depth, number):
        # Rising, as first fields and what stands behind them do.
        if depth == 0:
            return [(field,) for field in fields_in(number)]
        found = []
        for field, part in self.branches[number]:
            found.extend([(field,) + rest for rest in self.tuples_in(depth - 1, part)])
        return found

    def in_either(self, depth, one, other):
        if one == 0 or other == 0 or one == other:
            return one if other == 0 else other
        if depth == 0:
            return one | other
        name = (min(one, other), max(one, other))
        if name not in self.either_known:
            found = dict(self.branches[one])
            for field, part in self.branches[other]:
                found[field] = self.in_either(depth - 1, found.get(field, 0), part)
            self.either_known[name] = self.number_for(depth, sorted(found.items()))
        return self.either_known[name]

    def in_both(self, depth, one, other):
        if one == 0 or other == 0 or one == other:
            return 0 if other == 0 else one
        if depth == 0:
            return one & other
        name = (min(one, other), max(one, other))
        if name not in self.both_known:
            found = dict(self.branches[one])
            self.both_known[name] = self.number_for(depth, [
                (field, self.in_both(depth - 1, found.get(field, 0), part)) for field, part in self.branches[other]])
        return self.both_known[name]

    def with_first(self, depth, number, bits):
        if depth == 0:
            return number & bits
        name = (number, bits)
        if name not in self.first_known:
            self.first_known[name] = self.number_for(depth, [
                branch for branch in self.branches[number] if bit_of(branch[0]) & bits])
        return self.first_known[name]

    def least(self, depth, number):
        found = []
        for left in range(depth):
            first = self.branches[number][0]
            found.append(first[0])
            number = first[1]
        return tuple(found + [least_field(number)])


class Walk:
    # Steps from the left to the right, of a height, through sets that several walks may share.

    def __init__(self, sets, letters, tiles, high):
        self.sets = sets
        self.letters = letters
        self.high = high
        self.lower_left = {}
        self.closing = {}
        self.choices_known = {}
        self.placed_known = {}
        self.closed_known = {}
        for tile in tiles:
            self.take_tile(tile)

    def take_tile(self, tile):
        upper = (tile[0], tile[1])
        if tile[2] == BORDER and tile[3] == BORDER:
            self.closing[tile[1]] = self.closing.get(tile[1], 0) | bit_of(tile[0])
        if tile[3] != BORDER:
            found = self.lower_left.setdefault(upper, {})
            found[tile[3]] = found.get(tile[3], 0) | bit_of(tile[2])

    def beginning(self):
        return self.sets.of_one([BORDER] * self.high)

    def choices(self, left, right, letters):
        # Beneath two fields: each mark for one of the letters, with the fields that may stand left of it.
        name = (left, right, letters)
        if name not in self.choices_known:
            found = self.lower_left.get((left, right), {})
            self.choices_known[name] = [(mark, found[mark]) for mark in sorted(found) if self.letters[mark] in letters]
        return self.choices_known[name]

    def placed(self, row, front, letters):
        # The fronts behind a next field, at a row, for one of the letters.
        if row == 0:
            return self.sets.number_for(self.high, [
                (mark, self.sets.with_first(self.high - 1, front, bits))
                for mark, bits in self.choices(BORDER, BORDER, letters)])
        return self.placed_beneath(row, 0, front, letters)

    def placed_beneath(self, row, above, front, letters):
        name = (row, front, letters)
        if name not in self.placed_known:
            found = []
            for field, part in self.sets.branches[front]:
                if above < row - 1:
                    found.append((field, self.placed_beneath(row, above + 1, part, letters)))
                else:
                    found.append((field, self.placed_right(self.high - row, field, part, letters)))
            self.placed_known[name] = self.sets.number_for(self.high - above, found)
        return self.placed_known[name]

    def placed_right(self, depth, upper, front, letters):
        # Behind the field above: a mark in the place of the field of the column ahead that is needed no more.
        found = {}
        for left, part in self.sets.branches[front]:
            for mark, bits in self.choices(left, upper, letters):
                fitting = self.sets.with_first(depth - 1, part, bits)
                found[mark] = self.sets.in_either(depth - 1, found.get(mark, 0), fitting)
        return self.sets.number_for(depth, sorted(found.items()))

    def closed(self, depth, front):
        # The columns that fronts become where the border may stand beneath them.
        if front not in self.closed_known:
            branches = self.sets.branches[front]
            if depth == 1:
                self.closed_known[front] = sum([
                    bit_of(field) for field, lefts in branches if lefts & self.closing.get(field, 0)])
            else:
                self.closed_known[front] = self.sets.number_for(depth - 1, [
                    (field, self.closed(depth - 1, part)) for field, part in branches])
        return self.closed_known[front]

    def onward(self, row, front, letters):
        # Behind a next field; behind the lowest one, columns.
        found = self.placed(row, front, letters)
        return self.closed(self.high, found) if row == self.high - 1 else found

    def behind(self, columns, choices):
        # The columns behind some others, with a text of letters to choose from for each field.
        front = columns
        for row, letters in enumerate(choices):
            front = self.onward(row, front, letters)
        return front


def walk_right(sets, system, high):
    return Walk(sets, system[0], system[1], high)


def walk_left(sets, system, high):
    return Walk(sets, system[0], mirrored_tiles(system[1]), high)


def any_letters(high):
    return [LETTERS] * high


def columns_that_end(sets, system, high, columns):
    # For each column of choices, the columns of marks there behind which the rest can follow, and the border.
    walk = walk_left(sets, system, high)
    behind = walk.beginning()
    found = []
    for choices in reversed(columns):
        behind = walk.behind(behind, choices)
        found.append(behind)
    return found[::-1]
