"""Rules for the rows of a height, and papers that show that all pictures of a system keep one."""

from quiltyard.errors import BadSize
from quiltyard.pictures import LETTERS, are_letters, rows_of
from quiltyard.sizes import look_height
from quiltyard.systems import look_system
from quiltyard.walking import FieldSets, any_letters, columns_that_end, walk_left, walk_right


def look_rule(high, rule):
    if len(rule) != high or not all([are_letters(text) for text in rule]):
        raise BadSize("a rule has a text of the letters a to d for each row of the height")


def look_question(system, high, rule):
    look_system(system)
    look_height(high)
    look_rule(high, rule)


def keeps(rule, column):
    return all([letter in text for text, letter in zip(rule, column)])


def breaking_choices(rule):
    # For each row, what a column may be whose letter there breaks the rule.
    found = []
    for row, text in enumerate(rule):
        choices = any_letters(len(rule))
        choices[row] = "".join([letter for letter in LETTERS if letter not in text])
        found.append(choices)
    return found


class Course:
    # How columns of marks lead to the right border, and whether past one that breaks the rule.
    # A layer has two sets: the columns that lead there in at most so many columns, themselves counted, with the
    # border itself; and those that can do so with a column among these that breaks the rule.

    def __init__(self, system, high, rule):
        self.depth = high - 1
        self.rule = rule
        self.sets = FieldSets()
        self.to_right = walk_right(self.sets, system, high)
        self.to_left = walk_left(self.sets, system, high)
        self.whole = any_letters(high)
        self.breaking = breaking_choices(rule)
        self.outset = self.to_right.beginning()
        self.firsts = self.to_right.behind(self.outset, self.whole)

    def in_both(self, one, other):
        return self.sets.in_both(self.depth, one, other)

    def in_either(self, one, other):
        return self.sets.in_either(self.depth, one, other)

    def wider_layer(self, layer):
        leading = self.in_either(self.outset, self.to_left.behind(layer[0], self.whole))
        breaking = self.to_left.behind(layer[1], self.whole)
        for choices in self.breaking:
            breaking = self.in_either(breaking, self.to_left.behind(layer[0], choices))
        return (leading, breaking)

    def layers_from_right(self):
        # For each width from 0 on, up to the first at which a picture breaks the rule, or the last that adds any.
        found = [(self.outset, 0)]
        layer = self.wider_layer(found[0])
        while layer != found[-1] and not self.breaks(found[-1]):
            found.append(layer)
            layer = self.wider_layer(layer)
        return found

    def breaks(self, layer):
        return self.in_both(self.firsts, layer[1]) != 0

    def fitting(self, columns, choices, leading):
        return self.in_both(self.to_right.behind(columns, choices), leading)

    def least_letter(self, columns, chosen, leading):
        rest = self.whole[len(chosen) + 1:]
        return [letter for letter in LETTERS if self.fitting(columns, chosen + [letter] + rest, leading) != 0][0]

    def least_column(self, columns, leading):
        chosen = []
        while len(chosen) <= self.depth:
            chosen.append(self.least_letter(columns, chosen, leading))
        return "".join(chosen)

    def least_breaking(self, layers):
        # No narrower picture breaks the rule, so that what leads on in at most so many columns needs just so many.
        columns = self.outset
        broken = False
        found = []
        for layer in layers[:0:-1]:
            leading = layer[0] if broken else layer[1]
            column = self.least_column(columns, leading)
            columns = self.fitting(columns, column, leading)
            broken = broken or not keeps(self.rule, column)
            found.append(column)
        return rows_of(found)

    def reached(self):
        found = self.firsts
        behind = self.to_right.behind(found, self.whole)
        while self.in_both(behind, found) != behind:
            found = self.in_either(found, behind)
            behind = self.to_right.behind(found, self.whole)
        return found

    def paper(self, leading):
        # All columns that pictures may come to, and those of them that lead to no end.
        reached = self.reached()
        firsts = self.sets.tuples_in(self.depth, reached)
        ending = dict([(column, True) for column in self.sets.tuples_in(self.depth, self.in_both(reached, leading))])
        return (firsts, [column for column in firsts if column not in ending])


def ruled(system, high, rule):
    look_question(system, high, rule)
    course = Course(system, high, rule)
    layers = course.layers_from_right()
    if course.breaks(layers[-1]):
        return ("broken", course.least_breaking(layers))
    return ("holds", course.paper(layers[-1][0]))


def is_column(column, high, marks):
    return len(column) == high and all([0 <= mark < marks for mark in column])


def stays_within(sets, walk, columns, others):
    # Whether all that stands behind the columns is among the others.
    behind = walk.behind(columns, any_letters(walk.high))
    return sets.in_both(walk.high - 1, behind, others) == behind


def closes(system, high, paper):
    # Whether the first list holds all columns that pictures come to, and the second ones lead to no end.
    depth = high - 1
    sets = FieldSets()
    walk = walk_right(sets, system, high)
    first = sets.of_all(depth, paper[0])
    second = sets.of_all(depth, paper[1])
    ending = columns_that_end(sets, system, high, [any_letters(high)])[0]
    if not stays_within(sets, walk, sets.in_either(depth, walk.beginning(), first), first):
        return False
    return stays_within(sets, walk, second, second) and sets.in_both(depth, second, ending) == 0


def shows_rule(system, high, rule, paper):
    look_question(system, high, rule)
    letters = system[0]
    if not all([is_column(column, high, len(letters)) for column in paper[0] + paper[1]]):
        return False
    passed_over = dict([(column, True) for column in paper[1]])
    for column in paper[0]:
        if column not in passed_over and not keeps(rule, [letters[mark] for mark in column]):
            return False
    return closes(system, high, paper)
