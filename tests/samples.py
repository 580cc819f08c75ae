"""Inputs that several tests share, all of them made by plain rules."""

import itertools

GOOD = ["abc", "dcb"]


def picture_of_size(high, wide, turn=0):
    """A picture in which neither rows nor columns are alike by chance."""
    return ["".join("abcd"[(turn + r * (r + 2) + c * (c + 3) // 2 + r * c) % 4] for c in range(wide))
            for r in range(high)]


def all_sizes():
    return [(high, wide) for high in range(1, 5) for wide in range(1, 13)]


def bad_pictures():
    """Lists of texts that are no pictures, each with a name for the report."""
    found = [("the empty list", []), ("one empty row", [""]), ("four empty rows", ["", "", "", ""])]
    found.append(("five rows", picture_of_size(5, 3)))
    found.append(("nine rows", picture_of_size(9, 1)))
    found.append(("thirteen columns", picture_of_size(2, 13)))
    found.append(("thirteen columns in one row", picture_of_size(1, 13)))
    found.append(("forty columns", picture_of_size(4, 40)))
    for k in range(3):
        rows = picture_of_size(3, 4)
        found.append((f"row {k} longer", rows[:k] + [rows[k] + "a"] + rows[k + 1:]))
        found.append((f"row {k} shorter", rows[:k] + [rows[k][:-1]] + rows[k + 1:]))
        found.append((f"row {k} empty", rows[:k] + [""] + rows[k + 1:]))
    for sign in ["e", "A", "D", "z", "`", "{", " ", "0", "\n", "~", "#", "-"]:
        for r in range(2):
            for c in range(3):
                rows = list(GOOD)
                rows[r] = rows[r][:c] + sign + rows[r][c + 1:]
                found.append((f"{sign!r} in row {r}, column {c}", rows))
    return found


def bad_systems():
    """Pairs that are no systems, each with a name for the report."""
    fine = (-1, -1, -1, 0)
    found = [("17 marks", ("abcd" * 4 + "a", [])), ("40 marks", ("a" * 40, []))]
    for sign in ["e", "A", "z", "`", " ", "0", "\n", "#"]:
        for place in range(3):
            letters = "abc"[:place] + sign + "abc"[place + 1:]
            found.append((f"{sign!r} at {place}", (letters, [])))
            found.append((f"{sign!r} at {place}, with a tile", (letters, [fine])))
    for tile in [(), (0,), (-1, 0), (-1, 0, 1), (-1, 0, 1, 0, -1), (0,) * 8]:
        found.append((f"a tile of {len(tile)}", ("ab", [tile])))
        found.append((f"a tile of {len(tile)} among others", ("ab", sorted([tile, fine, (1, 1, 1, 1)]))))
    for field in [-2, -3, -10 ** 15 + 1, 2, 3, 16, 10 ** 15 - 1]:
        for place in range(4):
            tile = (0,) * place + (field,) + (0,) * (3 - place)
            found.append((f"{field} at {place}", ("ab", [tile])))
            found.append((f"{field} at {place}, among others", ("ab", sorted([tile, fine, (1, 1, 1, 1)]))))
    found.append(("a mark where there is none", ("", [fine])))
    found.append(("mark 16 of 16", ("abcd" * 4, [(-1, -1, -1, 16)])))
    tiles = [fine, (-1, 0, -1, -1), (0, -1, -1, -1), (0, 0, 0, 0), (0, 0, 0, 1)]
    for k in range(4):
        swapped = tiles[:k] + [tiles[k + 1], tiles[k]] + tiles[k + 2:]
        found.append((f"tiles {k} and {k + 1} swapped", ("ab", swapped)))
    for k in range(5):
        found.append((f"tile {k} twice", ("ab", tiles[:k + 1] + tiles[k:])))
    found.append(("a tile again at the end", ("ab", tiles + tiles[:1])))
    found.append(("tiles that fall", ("ab", tiles[::-1])))
    return found


def tiles_by_place(rows):
    """The tiles of rows with the border, by the place of the right lower field."""
    high = len(rows)
    wide = len(rows[0])

    def field(r, c):
        return rows[r][c] if 0 <= r < high and 0 <= c < wide else -1

    return {(r, c): (field(r - 1, c - 1), field(r - 1, c), field(r, c - 1), field(r, c))
            for r in range(high + 1) for c in range(wide + 1)}


def every_tile(marks):
    return sorted(itertools.product(range(-1, marks), repeat=4))


def system_of_rows(letters, *grids):
    return (letters, sorted({tile for rows in grids for tile in tiles_by_place(rows).values()}))


def some_tiles(marks, share, turn, edge_share=100):
    """Of a hundred tiles about a share, as if by chance but the same each time; of those with a border another."""
    found = []
    state = turn * 7919 + marks
    for tile in every_tile(marks):
        state = (state * 1103515245 + 12345) % 2 ** 31
        if state // 2 ** 12 % 100 < (edge_share if -1 in tile else share):
            found.append(tile)
    return found


def system_of_phases(letters, phases, follows, first, last):
    """Marks of which a column has those of one phase alone; which phases may follow, be first, be last."""
    pairs = follows + [(-1, phase) for phase in first] + [(phase, -1) for phase in last]
    phase_of = dict(enumerate(phases))
    phase_of[-1] = None
    tiles = []
    for tile in every_tile(len(letters)):
        left = {phase_of[tile[0]], phase_of[tile[2]]} - {None} or {-1}
        right = {phase_of[tile[1]], phase_of[tile[3]]} - {None} or {-1}
        if len(left) == 1 and len(right) == 1 and (left.pop(), right.pop()) in pairs:
            tiles.append(tile)
    return (letters, tiles)


def system_with_full_column():
    """Lets by the pictures of a and b in which some column is of a alone; such columns are chosen by marks 2."""
    return system_of_phases("abaab", [0, 0, 1, 2, 2], [(0, 0), (0, 1), (1, 2), (2, 2)], [0, 1], [1, 2])


def system_of_counter(base, letters):
    """Columns that count up in digits from all 0 to all the last one: its pictures are just base ** height wide."""
    last = base - 1
    tiles = {(-1, -1, -1, 0), (-1, 0, -1, 0), (-1, 0, -1, -1), (-1, -1, last, -1), (last, -1, last, -1),
             (last, -1, -1, -1)}
    stays = [(digit, digit) for digit in range(base)]
    rises = [(digit, digit + 1) for digit in range(last)]
    over = rises + [(last, 0)]
    tiles |= {(-1, -1, left, right) for left, right in stays + rises}
    tiles |= {(left, right, -1, -1) for left, right in over}
    tiles |= {(left, right, low, low_right) for left, right in stays for low, low_right in stays + rises}
    tiles |= {(left, right, last, 0) for left, right in over}
    return (letters, sorted(tiles))


def system_of_heights(letters, phases, follows, first, last):
    """Like system_of_phases, but of rows from the top in the place of columns from the left."""
    letters, tiles = system_of_phases(letters, phases, follows, first, last)
    return (letters, sorted((left, low_left, right, low_right) for left, right, low_left, low_right in tiles))


def with_order(system, order):
    """The same system with its marks in another turn: mark order[k] is now k."""
    letters, tiles = system
    number = {mark: k for k, mark in enumerate(order)}
    number[-1] = -1
    return ("".join(letters[mark] for mark in order), sorted(tuple(number[field] for field in tile) for tile in tiles))


def with_mark_twice(system, mark):
    """The same system with one more mark, at the end, that may stand wherever this one may."""
    letters, tiles = system
    choices = {field: [field] for field in range(-1, len(letters))}
    choices[mark] = [mark, len(letters)]
    return (letters + letters[mark],
            sorted({more for tile in tiles for more in itertools.product(*[choices[field] for field in tile])}))


def with_tile_changed(system, turn):
    """The system with one tile more, or one fewer."""
    letters, tiles = system
    whole = every_tile(len(letters))
    return (letters, sorted(set(tiles) ^ {whole[turn * 37 % len(whole)]}))
