"""Slow and plain answers that the program's are held against."""

import itertools

from quiltyard.systems import shows


def columns_of_rows(rows):
    return [list(column) for column in zip(*rows)]


def all_rows(signs, high, wide):
    """All rectangles of some signs, as rows, in the order of their columns."""
    for fields in itertools.product(signs, repeat=high * wide):
        yield [list(fields[row::high]) for row in range(high)]


def all_pictures(letters, high, wide):
    return [["".join(row) for row in rows] for rows in all_rows(letters, high, wide)]


def least_rows(system, high, wide):
    """For each picture of a size that is let by (as a tuple), the least rows of marks of all that show it."""
    found = {}
    for rows in all_rows(range(len(system[0])), high, wide):
        picture = ["".join(system[0][mark] for mark in row) for row in rows]
        if shows(system, picture, rows):
            due = found.setdefault(tuple(picture), rows)
            found[tuple(picture)] = min(due, rows, key=columns_of_rows)
    return found


class ByColumns:
    """A system at a height, with every column of marks written out."""

    def __init__(self, system, high):
        self.letters = system[0]
        self.tiles = set(system[1])
        self.high = high
        self.steps = {}

    def fits(self, left, right):
        ahead = (-1,) + left + (-1,)
        behind = (-1,) + right + (-1,)
        return all((ahead[k], behind[k], ahead[k + 1], behind[k + 1]) in self.tiles for k in range(self.high + 1))

    def marked(self, column):
        marks = [[mark for mark, letter in enumerate(self.letters) if letter == sign] for sign in column]
        return list(itertools.product(*marks))

    def behind(self, columns, column):
        name = (columns, column)
        if name not in self.steps:
            self.steps[name] = tuple(right for right in self.marked(column)
                                     if any(self.fits(left, right) for left in columns))
        return self.steps[name]

    def edge(self):
        return (-1,) * self.high

    def count(self, wide):
        """How many pictures of a width are let by."""
        texts = ["".join(text) for text in itertools.product(sorted(set(self.letters)), repeat=self.high)]
        counts = {(self.edge(),): 1}
        for place in range(wide):
            behind = {}
            for columns, count in counts.items():
                for text in texts:
                    step = self.behind(columns, text)
                    if step:
                        behind[step] = behind.get(step, 0) + count
            counts = behind
        return sum(count for columns, count in counts.items()
                   if any(self.fits(column, self.edge()) for column in columns))

    def lets(self, picture):
        """The least rows of marks, from the sets of columns behind which the rest of the picture can follow."""
        texts = ["".join(column) for column in zip(*picture)]
        ending = [[self.edge()]]
        for text in reversed(texts):
            ending.append([left for left in self.marked(text)
                           if any(self.fits(left, right) for right in ending[-1])])
        ending = ending[:0:-1]
        found = [self.edge()]
        for columns in ending:
            found.append(min([right for right in columns if self.fits(found[-1], right)], default=None))
            if found[-1] is None:
                return None
        return [list(row) for row in zip(*found[1:])]
