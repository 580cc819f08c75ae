"""Slow and plain answers that the program's are held against."""

import itertools

from quiltyard.systems import shows


def columns_of_rows(rows):
    return [list(column) for column in zip(*rows)]


def all_rows(signs, high, wide):
    """All rectangles of some signs, as rows, in the order of their columns."""
    for fields in itertools.product(signs, repeat=high * wide):
        yield [list(fields[row::high]) for row in range(high)]


def all_pictures(letters, high, wide):
    return [["".join(row) for row in rows] for rows in all_rows(letters, high, wide)]


def least_rows(system, high, wide):
    """For each picture of a size that is let by (as a tuple), the least rows of marks of all that show it."""
    found = {}
    for rows in all_rows(range(len(system[0])), high, wide):
        picture = ["".join(system[0][mark] for mark in row) for row in rows]
        if shows(system, picture, rows):
            due = found.setdefault(tuple(picture), rows)
            found[tuple(picture)] = min(due, rows, key=columns_of_rows)
    return found


class ByColumns:
    """A system at a height, with every column of marks written out."""

    def __init__(self, system, high):
        self.letters = system[0]
        self.tiles = set(system[1])
        self.high = high
        self.steps = {}

    def fits(self, left, right):
        ahead = (-1,) + left + (-1,)
        behind = (-1,) + right + (-1,)
        return all((ahead[k], behind[k], ahead[k + 1], behind[k + 1]) in self.tiles for k in range(self.high + 1))

    def marked(self, column):
        marks = [[mark for mark, letter in enumerate(self.letters) if letter == sign] for sign in column]
        return list(itertools.product(*marks))

    def behind(self, columns, column):
        name = (columns, column)
        if name not in self.steps:
            self.steps[name] = tuple(right for right in self.marked(column)
                                     if any(self.fits(left, right) for left in columns))
        return self.steps[name]

    def edge(self):
        return (-1,) * self.high

    def count(self, wide):
        """How many pictures of a width are let by."""
        texts = column_texts(self)
        counts = {(self.edge(),): 1}
        for place in range(wide):
            behind = {}
            for columns, count in counts.items():
                for text in texts:
                    step = self.behind(columns, text)
                    if step:
                        behind[step] = behind.get(step, 0) + count
            counts = behind
        return sum(count for columns, count in counts.items()
                   if any(self.fits(column, self.edge()) for column in columns))

    def lets(self, picture):
        """The least rows of marks, from the sets of columns behind which the rest of the picture can follow."""
        texts = ["".join(column) for column in zip(*picture)]
        ending = [[self.edge()]]
        for text in reversed(texts):
            ending.append([left for left in self.marked(text)
                           if any(self.fits(left, right) for right in ending[-1])])
        ending = ending[:0:-1]
        found = [self.edge()]
        for columns in ending:
            found.append(min([right for right in columns if self.fits(found[-1], right)], default=None))
            if found[-1] is None:
                return None
        return [list(row) for row in zip(*found[1:])]

    def may_end(self, columns):
        return any(self.fits(column, self.edge()) for column in columns)

    def words(self, wide):
        """All pictures of a width that are let by, as tuples of their columns."""
        texts = column_texts(self)
        found = [((), (self.edge(),))]
        for place in range(wide):
            steps = [(word + (text,), self.behind(columns, text)) for word, columns in found for text in texts]
            found = [(word, columns) for word, columns in steps if columns]
        return {word for word, columns in found if self.may_end(columns)}

    def all_columns(self):
        return list(itertools.product(range(len(self.letters)), repeat=self.high))


def column_texts(*systems):
    """All columns of the letters that the systems, each as ByColumns, have marks for."""
    letters = sorted(set("".join(system.letters for system in systems)))
    return ["".join(text) for text in itertools.product(letters, repeat=systems[0].high)]


def rows_of_word(word):
    return ["".join(row) for row in zip(*word)]


def pairs_reached(one, other, begun=None):
    """All pairs that two systems, each as ByColumns, come to from a pair, whether they end alike or not."""
    begun = begun or ((one.edge(),), (other.edge(),))
    texts = column_texts(one, other)
    found = {begun}
    left = [begun]
    while left:
        pair = left.pop()
        for text in texts:
            step = (one.behind(pair[0], text), other.behind(pair[1], text))
            if step != ((), ()) and step not in found:
                found.add(step)
                left.append(step)
    return found


def are_shown_alike(one, other, pairs):
    """[4.1], word by word."""
    if ((one.edge(),), (other.edge(),)) not in pairs:
        return False
    texts = column_texts(one, other)
    for left, right in pairs:
        for text in texts:
            step = (one.behind(left, text), other.behind(right, text))
            if step != ((), ()):
                if step not in pairs or one.may_end(step[0]) != other.may_end(step[1]):
                    return False
    return True


def keeps_rule(rule, word):
    return all(letter in text for column in word for letter, text in zip(column, rule))


def is_rule_shown(plain, rule, paper):
    """[6.2], word by word."""
    first, second = paper
    columns = plain.all_columns()
    if [column for column in first + second if column not in columns]:
        return False
    behind = [other for other in columns if any(plain.fits(column, other) for column in [plain.edge()] + first)]
    if [column for column in behind if column not in first]:
        return False
    behind = [other for other in columns if any(plain.fits(column, other) for column in second)]
    if [column for column in behind if column not in second] or plain.may_end(second):
        return False
    texts = ["".join(plain.letters[mark] for mark in column) for column in first if column not in second]
    return keeps_rule(rule, texts)
