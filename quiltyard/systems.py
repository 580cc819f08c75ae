"""Systems, letters for marks and tiles of four fields, and the rows of marks that show a picture."""

from quiltyard.errors import BadSystem
from quiltyard.pictures import LETTERS, are_letters, look_picture

BORDER = -1
MOST_MARKS = 16
TILE_FIELDS = 4


def are_fields(fields, many, marks):
    return len(fields) == many and all([BORDER <= field < marks for field in fields])


def rises(tiles):
    return all([tiles[place - 1] < tiles[place] for place in range(1, len(tiles))])


def is_system(system):
    if len(system) != 2:
        return False
    letters = system[0]
    tiles = system[1]
    if len(letters) > MOST_MARKS or not are_letters(letters):
        return False
    return all([are_fields(tile, TILE_FIELDS, len(letters)) for tile in tiles]) and rises(tiles)


def look_system(system):
    if not is_system(system):
        raise BadSystem("a system has 0 to 16 letters, a to d, and rising tiles of four fields, marks or -1")


def bordered(rows):
    edge = [BORDER] * (len(rows[0]) + 2)
    return [edge] + [[BORDER] + row + [BORDER] for row in rows] + [edge]


def tiles_of(rows):
    fields = bordered(rows)
    tiles = []
    for upper, lower in zip(fields, fields[1:]):
        for place in range(len(upper) - 1):
            tiles.append((upper[place], upper[place + 1], lower[place], lower[place + 1]))
    return tiles


def mirrored_tiles(tiles):
    return [(right, left, low_right, low_left) for left, right, low_left, low_right in tiles]


def stands_for(letters, mark, letter):
    # A number below 0 would find a letter from the text's end.
    return 0 <= mark < len(letters) and letters[mark] == letter


def row_fits(letters, text, marks):
    if len(marks) != len(text):
        return False
    return all([stands_for(letters, mark, letter) for mark, letter in zip(marks, text)])


def rows_fit(letters, picture, rows):
    if len(rows) != len(picture):
        return False
    return all([row_fits(letters, text, marks) for text, marks in zip(picture, rows)])


def shows(system, picture, rows):
    look_system(system)
    look_picture(picture)
    if not rows_fit(system[0], picture, rows):
        return False
    # As a dict, for a list of tiles would be walked anew for each four fields.
    known = dict([(tile, True) for tile in system[1]])
    return all([tile in known for tile in tiles_of(rows)])


def letter_marks(text):
    return [LETTERS.index(letter) for letter in text]


def of_pictures(pictures):
    for picture in pictures:
        look_picture(picture)
    found = {}
    for picture in pictures:
        # A letter has but one mark here, so none of a picture's tiles can be spared.
        for tile in tiles_of([letter_marks(text) for text in picture]):
            found[tile] = True
    return (LETTERS, sorted(found))
