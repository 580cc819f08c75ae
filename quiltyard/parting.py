"""Whether two systems let by the same pictures of a height: a least picture that parts them, or what shows it."""

from quiltyard.pictures import LETTERS, rows_of
from quiltyard.sizes import look_height
from quiltyard.systems import are_fields, look_system, rises
from quiltyard.walking import FieldSets, any_letters, columns_that_end, walk_right


class Both:
    # Two systems at a height, gone through together. A pair is what each of them has behind the same columns of
    # letters: two numbers of sets of columns of marks.

    def __init__(self, one, other, high):
        self.high = high
        self.letters = [letter for letter in LETTERS if letter in one[0] + other[0]]
        self.sets = FieldSets()
        self.left_walk = walk_right(self.sets, one, high)
        self.right_walk = walk_right(self.sets, other, high)
        self.left_ending = columns_that_end(self.sets, one, high, [any_letters(high)])[0]
        self.right_ending = columns_that_end(self.sets, other, high, [any_letters(high)])[0]

    def beginning(self):
        return (self.left_walk.beginning(), self.right_walk.beginning())

    def pairs_behind(self, pair):
        # Each pair behind one more column, with the least column of letters that leads there, in their order.
        found = {pair: ""}
        for row in range(self.high):
            behind = {}
            for fronts, column in found.items():
                for letter in self.letters:
                    step = self.step(row, fronts, letter)
                    if step != (0, 0):
                        behind.setdefault(step, column + letter)
            found = behind
        return found

    def step(self, row, fronts, letter):
        return (self.left_walk.onward(row, fronts[0], letter), self.right_walk.onward(row, fronts[1], letter))

    def ends_alike(self, pair):
        left = self.sets.in_both(self.high - 1, pair[0], self.left_ending)
        right = self.sets.in_both(self.high - 1, pair[1], self.right_ending)
        return (left == 0) == (right == 0)

    def written_out(self, pair):
        return tuple([tuple(self.sets.tuples_in(self.high - 1, number)) for number in pair])


class Search:
    # All pairs that two systems come to, by their width and then in order, up to the first that parts them.
    # As a pair is come to by its least columns first, so is the one that parts them.

    def __init__(self, both):
        self.both = both
        self.ways = {both.beginning(): None}
        self.parting = None

    def new_behind(self, pair):
        found = []
        for step, column in self.both.pairs_behind(pair).items():
            if step not in self.ways:
                self.ways[step] = (pair, column)
                found.append(step)
        return found

    def go(self):
        layer = list(self.ways)
        while layer != []:
            wider = []
            for pair in layer:
                found = self.new_behind(pair)
                parting = [step for step in found if not self.both.ends_alike(step)]
                if parting != []:
                    self.parting = parting[0]
                    return
                wider.extend(found)
            layer = wider

    def picture(self):
        columns = []
        way = self.ways[self.parting]
        while way is not None:
            columns.append(way[1])
            way = self.ways[way[0]]
        return rows_of(columns[::-1])


def searched(one, other, high):
    search = Search(Both(one, other, high))
    search.go()
    return search


def told_height(one, other, high):
    look_system(one)
    look_system(other)
    look_height(high)
    search = searched(one, other, high)
    if search.parting is not None:
        return ("unlike", search.picture())
    return ("alike", [search.both.written_out(pair) for pair in search.ways])


def parted(one, other, high):
    look_system(one)
    look_system(other)
    for height in range(1, high + 1):
        look_height(height)
        search = searched(one, other, height)
        if search.parting is not None:
            return search.picture()
    return None


def is_half(columns, high, marks):
    return all([are_fields(column, high, marks) for column in columns]) and rises(columns)


def half_number(sets, columns, high, marks):
    # Others are left out, as no tile lets anything stand behind them.
    return sets.of_all(high - 1, [column for column in columns if are_fields(column, high, marks)])


def goes_on(both, pair, known):
    return all([step in known and both.ends_alike(step) for step in both.pairs_behind(pair)])


def shows_alike(one, other, high, pairs):
    look_system(one)
    look_system(other)
    look_height(high)
    both = Both(one, other, high)
    marks = (len(one[0]), len(other[0]))
    handed = {}
    known = {}
    for pair in pairs:
        numbers = tuple([half_number(both.sets, half, high, most) for half, most in zip(pair, marks)])
        handed[numbers] = True
        # The same columns in another turn, or with others among them, are not what a system has.
        if all([is_half(half, high, most) for half, most in zip(pair, marks)]):
            known[numbers] = True
    if both.beginning() not in known:
        return False
    return all([goes_on(both, pair, known) for pair in handed])
