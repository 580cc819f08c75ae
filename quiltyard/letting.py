"""The rows of marks that show that a system lets a picture by."""

from quiltyard.pictures import columns_of
from quiltyard.systems import BORDER, look_system
from quiltyard.walking import FieldSets, columns_that_end, walk_right


def least_columns(system, columns):
    high = len(columns[0])
    sets = FieldSets()
    ending = columns_that_end(sets, system, high, columns)
    walk = walk_right(sets, system, high)
    marks = (BORDER,) * high
    found = []
    for column, ends in zip(columns, ending):
        fitting = sets.in_both(high - 1, walk.behind(sets.of_one(marks), column), ends)
        if fitting == 0:
            return None
        marks = sets.least(high - 1, fitting)
        found.append(marks)
    return found


def row_at(columns, row):
    return [marks[row] for marks in columns]


def lets(system, picture):
    look_system(system)
    columns = columns_of(picture)
    found = least_columns(system, columns)
    if found is None:
        return None
    return [row_at(found, row) for row in range(len(picture))]
