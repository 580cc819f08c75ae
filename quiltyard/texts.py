"""Systems as texts: a row of letters, then a row for each tile."""

from quiltyard.errors import BadText
from quiltyard.pictures import are_letters
from quiltyard.systems import BORDER, MOST_MARKS, TILE_FIELDS, look_system

BORDER_SIGN = "#"


def written_field(field):
    return BORDER_SIGN if field == BORDER else str(field)


def written_tile(tile):
    return " ".join([written_field(field) for field in tile])


def written(system):
    look_system(system)
    return "\n".join([system[0]] + [written_tile(tile) for tile in system[1]])


def known_fields(marks):
    return dict([(written_field(field), field) for field in range(BORDER, marks)])


def read_tile(row, fields):
    # None of a row that is no tile. As whole texts the fields tell noughts ahead and marks that there are not.
    parts = row.split(" ")
    if len(parts) != TILE_FIELDS or not all([part in fields for part in parts]):
        return None
    return tuple([fields[part] for part in parts])


def read(text):
    rows = text.split("\n")
    letters = rows[0]
    if len(letters) > MOST_MARKS or not are_letters(letters):
        raise BadText(1)
    fields = known_fields(len(letters))
    tiles = []
    for number, row in enumerate(rows[1:], start=2):
        tile = read_tile(row, fields)
        if tile is None or (tiles != [] and tile <= tiles[-1]):
            raise BadText(number)
        tiles.append(tile)
    return (letters, tiles)
