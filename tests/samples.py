"""Inputs that several tests share, all of them made by plain rules."""

GOOD = ["abc", "dcb"]


def picture_of_size(high, wide, turn=0):
    """A picture in which neither rows nor columns are alike by chance."""
    return ["".join("abcd"[(turn + r * (r + 2) + c * (c + 3) // 2 + r * c) % 4] for c in range(wide))
            for r in range(high)]


def all_sizes():
    return [(high, wide) for high in range(1, 5) for wide in range(1, 13)]


def bad_pictures():
    """Lists of texts that are no pictures, each with a name for the report."""
    found = [("the empty list", []), ("one empty row", [""]), ("four empty rows", ["", "", "", ""])]
    found.append(("five rows", picture_of_size(5, 3)))
    found.append(("nine rows", picture_of_size(9, 1)))
    found.append(("thirteen columns", picture_of_size(2, 13)))
    found.append(("thirteen columns in one row", picture_of_size(1, 13)))
    found.append(("forty columns", picture_of_size(4, 40)))
    for k in range(3):
        rows = picture_of_size(3, 4)
        found.append((f"row {k} longer", rows[:k] + [rows[k] + "a"] + rows[k + 1:]))
        found.append((f"row {k} shorter", rows[:k] + [rows[k][:-1]] + rows[k + 1:]))
        found.append((f"row {k} empty", rows[:k] + [""] + rows[k + 1:]))
    for sign in ["e", "A", "D", "z", "`", "{", " ", "0", "\n", "~", "#", "-"]:
        for r in range(2):
            for c in range(3):
                rows = list(GOOD)
                rows[r] = rows[r][:c] + sign + rows[r][c + 1:]
                found.append((f"{sign!r} in row {r}, column {c}", rows))
    return found


def bad_systems():
    """Pairs that are no systems, each with a name for the report."""
    fine = (-1, -1, -1, 0)
    found = [("17 marks", ("abcd" * 4 + "a", [])), ("40 marks", ("a" * 40, []))]
    for sign in ["e", "A", "z", "`", " ", "0", "\n", "#"]:
        for place in range(3):
            letters = "abc"[:place] + sign + "abc"[place + 1:]
            found.append((f"{sign!r} at {place}", (letters, [])))
            found.append((f"{sign!r} at {place}, with a tile", (letters, [fine])))
    for tile in [(), (0,), (-1, 0), (-1, 0, 1), (-1, 0, 1, 0, -1), (0,) * 8]:
        found.append((f"a tile of {len(tile)}", ("ab", [tile])))
        found.append((f"a tile of {len(tile)} among others", ("ab", sorted([tile, fine, (1, 1, 1, 1)]))))
    for field in [-2, -3, -10 ** 15 + 1, 2, 3, 16, 10 ** 15 - 1]:
        for place in range(4):
            tile = (0,) * place + (field,) + (0,) * (3 - place)
            found.append((f"{field} at {place}", ("ab", [tile])))
            found.append((f"{field} at {place}, among others", ("ab", sorted([tile, fine, (1, 1, 1, 1)]))))
    found.append(("a mark where there is none", ("", [fine])))
    found.append(("mark 16 of 16", ("abcd" * 4, [(-1, -1, -1, 16)])))
    tiles = [fine, (-1, 0, -1, -1), (0, -1, -1, -1), (0, 0, 0, 0), (0, 0, 0, 1)]
    for k in range(4):
        swapped = tiles[:k] + [tiles[k + 1], tiles[k]] + tiles[k + 2:]
        found.append((f"tiles {k} and {k + 1} swapped", ("ab", swapped)))
    for k in range(5):
        found.append((f"tile {k} twice", ("ab", tiles[:k + 1] + tiles[k:])))
    found.append(("a tile again at the end", ("ab", tiles + tiles[:1])))
    found.append(("tiles that fall", ("ab", tiles[::-1])))
    return found
