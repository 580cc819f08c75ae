"""The pictures of one size that a system lets by, told by numbers in their order."""

from quiltyard.errors import BadSize
from quiltyard.pictures import LETTERS, columns_of
from quiltyard.sizes import look_size
from quiltyard.systems import look_system
from quiltyard.walking import FieldSets, any_letters, columns_that_end, walk_right


class Ways:
    # How the pictures of a size go on from field to field, down each column.
    # A way is the set of all fronts that the letters so far leave open, 0 if they leave none. The same letters
    # lead to one way alone, so a picture is counted once, however many rows of marks show it.

    def __init__(self, system, high, wide):
        self.high = high
        self.fields = high * wide
        self.sets = FieldSets()
        self.walk = walk_right(self.sets, system, high)
        self.ending = columns_that_end(self.sets, system, high, [any_letters(high)] * wide)
        self.steps_known = {}

    def beginning(self):
        return self.walk.beginning()

    def steps(self, place, way):
        # The ways behind the field at a place, for each letter.
        row = place % self.high
        if row < self.high - 1:
            name = (row, way)
        else:
            name = (row, way, self.ending[place // self.high])
        if name not in self.steps_known:
            self.steps_known[name] = [self.step(place, way, letter) for letter in LETTERS]
        return self.steps_known[name]

    def step(self, place, way, letter):
        row = place % self.high
        found = self.walk.onward(row, way, letter)
        if row < self.high - 1:
            return found
        # Columns that lead nowhere would keep ways apart that go on alike.
        return self.sets.in_both(self.high - 1, found, self.ending[place // self.high])

    def layers(self):
        # For each place, and for the end, all ways that are open there.
        found = [[self.beginning()]]
        for place in range(self.fields):
            behind = {}
            for way in found[-1]:
                for step in self.steps(place, way):
                    behind[step] = True
            found.append([way for way in behind if way != 0])
        return found

    def totals(self):
        # For each place, and for the end, how many pictures go on from each way.
        layers = self.layers()
        behind = dict([(way, 1) for way in layers[-1]])
        found = [behind]
        for place in range(self.fields - 1, -1, -1):
            here = {}
            for way in layers[place]:
                here[way] = sum([behind.get(step, 0) for step in self.steps(place, way)])
            found.append(here)
            behind = here
        return found[::-1]


def how_many(system, high, wide):
    look_system(system)
    look_size(high, wide)
    ways = Ways(system, high, wide)
    return ways.totals()[0][ways.beginning()]


def letters_of(ways, totals, number):
    # The letters, column by column, of the picture of a number that there is.
    way = ways.beginning()
    left = number
    found = []
    for place in range(ways.fields):
        steps = ways.steps(place, way)
        chosen = 0
        while left >= totals[place + 1].get(steps[chosen], 0):
            left -= totals[place + 1].get(steps[chosen], 0)
            chosen += 1
        found.append(LETTERS[chosen])
        way = steps[chosen]
    return found


def picture_of(system, high, wide, number):
    look_system(system)
    look_size(high, wide)
    ways = Ways(system, high, wide)
    totals = ways.totals()
    if not 0 <= number < totals[0][ways.beginning()]:
        raise BadSize("no picture of this size has this number")
    letters = letters_of(ways, totals, number)
    return ["".join(letters[row::high]) for row in range(high)]


def taken_ways(ways, letters):
    # The ways that the letters take, the last one at the end; None if they lead nowhere.
    found = [ways.beginning()]
    for place, letter in enumerate(letters):
        step = ways.steps(place, found[-1])[LETTERS.index(letter)]
        if step == 0:
            return None
        found.append(step)
    return found


def number_of(system, picture):
    look_system(system)
    columns = columns_of(picture)
    ways = Ways(system, len(picture), len(columns))
    letters = "".join(columns)
    taken = taken_ways(ways, letters)
    if taken is None:
        return None
    totals = ways.totals()
    found = 0
    for place, letter in enumerate(letters):
        # All pictures with a lesser letter here, and the same ones ahead of it, come first.
        for step in ways.steps(place, taken[place])[:LETTERS.index(letter)]:
            found += totals[place + 1].get(step, 0)
    return found
