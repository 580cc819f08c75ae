"""Systems that let by the pictures of others joined, mirrored or stood."""

from quiltyard.errors import BadSystem
from quiltyard.systems import BORDER, MOST_MARKS, look_system, mirrored_tiles

EDGE = (-1, -1)


def look_together(marks):
    if marks > MOST_MARKS:
        raise BadSystem("the systems have more than 16 marks together")


def look_both(one, other):
    look_system(one)
    look_system(other)


def each_once(tiles):
    return sorted(dict([(tile, True) for tile in tiles]))


def moved_field(field, by):
    return field if field == BORDER else field + by


def moved_tiles(tiles, by):
    return [tuple([moved_field(field, by) for field in tile]) for tile in tiles]


def stood_tiles(tiles):
    return [(left, low_left, right, low_right) for left, right, low_left, low_right in tiles]


def either(one, other):
    look_both(one, other)
    look_together(len(one[0]) + len(other[0]))
    # Marks that stand together share a tile, and no tile has marks of both, so that no picture has either.
    return (one[0] + other[0], each_once(one[1] + moved_tiles(other[1], len(one[0]))))


def pairs_of_marks(one, other):
    # Each two marks for the same letter, as one mark.
    found = {}
    for left, letter in enumerate(one):
        for right, other_letter in enumerate(other):
            if letter == other_letter:
                found[(left, right)] = len(found)
    return found


def face_of(letters, tile):
    return tuple([None if field == BORDER else letters[field] for field in tile])


def tiles_by_face(system):
    found = {}
    for tile in system[1]:
        found.setdefault(face_of(system[0], tile), []).append(tile)
    return found


def paired_tiles(one, other, marks):
    fields = dict(marks)
    fields[EDGE] = BORDER
    partners = tiles_by_face(other)
    found = []
    for tile in one[1]:
        for partner in partners.get(face_of(one[0], tile), []):
            found.append(tuple([fields[pair] for pair in zip(tile, partner)]))
    return found


def meeting(one, other):
    look_both(one, other)
    look_together(len(one[0]) * len(other[0]))
    marks = pairs_of_marks(one[0], other[0])
    letters = "".join([one[0][pair[0]] for pair in marks])
    return (letters, sorted(paired_tiles(one, other, marks)))


def left_of(tile):
    return (tile[0], tile[2])


def right_of(tile):
    return (tile[1], tile[3])


def is_seam(left, right):
    # A border runs on through both; else a tile of borders alone would let the other's left edge stand by itself.
    return all([(one == BORDER) == (other == BORDER) for one, other in zip(left, right)])


def seam_tiles(tiles, others):
    # Where one's right border and the other's left one would stand, the marks stand together.
    lefts = [left_of(tile) for tile in tiles if right_of(tile) == EDGE]
    rights = [right_of(tile) for tile in others if left_of(tile) == EDGE]
    found = []
    for left in lefts:
        found.extend([(left[0], right[0], left[1], right[1]) for right in rights if is_seam(left, right)])
    return found


def beside_tiles(tiles, others):
    # No tile leads from the other's marks to one's, and a seam goes straight down, as only seams hold marks of both.
    found = [tile for tile in tiles if right_of(tile) != EDGE]
    found.extend([tile for tile in others if left_of(tile) != EDGE])
    return found + seam_tiles(tiles, others)


def beside_of(one, other):
    look_both(one, other)
    look_together(len(one[0]) + len(other[0]))
    return (one[0] + other[0], each_once(beside_tiles(one[1], moved_tiles(other[1], len(one[0])))))


def over_of(one, other):
    look_both(one, other)
    look_together(len(one[0]) + len(other[0]))
    stood = beside_tiles(stood_tiles(one[1]), stood_tiles(moved_tiles(other[1], len(one[0]))))
    return (one[0] + other[0], each_once(stood_tiles(stood)))


def mirrored_of(system):
    look_system(system)
    return (system[0], sorted(mirrored_tiles(system[1])))


def stood_system(system):
    look_system(system)
    return (system[0], sorted(stood_tiles(system[1])))
