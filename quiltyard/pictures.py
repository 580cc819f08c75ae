"""Pictures, rectangles of the letters a to d, and the pictures that are made of them."""

from quiltyard.errors import BadPicture, Unlike

LETTERS = "abcd"
MOST_ROWS = 4
MOST_COLUMNS = 12


def are_letters(text):
    return all([sign in LETTERS for sign in text])


def is_picture(rows):
    if not 1 <= len(rows) <= MOST_ROWS:
        return False
    wide = len(rows[0])
    if not 1 <= wide <= MOST_COLUMNS:
        return False
    return all([len(row) == wide and are_letters(row) for row in rows])


def look_picture(picture):
    if not is_picture(picture):
        raise BadPicture("a picture has 1 to 4 rows of one length, 1 to 12, of the letters a to d")


def column_at(picture, place):
    return "".join([row[place] for row in picture])


def columns_of(picture):
    look_picture(picture)
    return [column_at(picture, place) for place in range(len(picture[0]))]


def rows_of(columns):
    # A column's place among the columns is that of its letter in each row.
    return [column_at(columns, row) for row in range(len(columns[0]))]


def mirrored(picture):
    look_picture(picture)
    return [row[::-1] for row in picture]


def flipped(picture):
    look_picture(picture)
    return picture[::-1]


def beside(one, other):
    look_picture(one)
    look_picture(other)
    if len(one) != len(other):
        raise Unlike("pictures that stand beside one another have as many rows")
    joined = [left + right for left, right in zip(one, other)]
    look_picture(joined)
    return joined


def over(one, other):
    look_picture(one)
    look_picture(other)
    if len(one[0]) != len(other[0]):
        raise Unlike("pictures that stand over one another are as wide")
    joined = one + other
    look_picture(joined)
    return joined
