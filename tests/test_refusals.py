import copy
import unittest

from quiltyard.counting import how_many, number_of, picture_of
from quiltyard.errors import BadPicture, BadSize, BadSystem
from quiltyard.joining import beside_of, either, meeting, mirrored_of, over_of, stood_system
from quiltyard.letting import lets
from quiltyard.parting import parted, shows_alike, told_height
from quiltyard.ruling import ruled, shows_rule
from quiltyard.systems import look_system, shows
from quiltyard.texts import written
from samples import bad_pictures, bad_systems, every_tile

LONG = 10 ** 15 - 1
BAD_HEIGHTS = [0, -1, 5, 6, LONG, -LONG]
FINE = ("ab", every_tile(2))

# What may stand behind a system, right and wrong.
OF_ONE = [
    (look_system, [()]),
    (shows, [(["ab"], [[0, 1]]), (["e"], [])]),
    (lets, [(["ab"],), ([],)]),
    (how_many, [(2, 2), (0, 0), (5, 13)]),
    (picture_of, [(2, 2, 0), (0, 0, -1), (2, 2, LONG)]),
    (number_of, [(["ab"],), (["abe"],)]),
    (mirrored_of, [()]),
    (stood_system, [()]),
    (ruled, [(1, ["a"]), (0, []), (5, ["e"]), (2, ["a"])]),
    (shows_rule, [(1, ["a"], ([], [])), (-1, [], ([], [])), (1, ["e"], ([(9, 9)], []))]),
    (written, [()]),
]
OF_TWO = [
    (told_height, [(1,), (0,), (LONG,)]),
    (shows_alike, [(1, []), (0, []), (5, [((), ())])]),
    (parted, [(1,), (0,), (-1,), (5,), (LONG,)]),
    (either, [()]),
    (meeting, [()]),
    (beside_of, [()]),
    (over_of, [()]),
]


class Refusals(unittest.TestCase):
    """The interface's last sentence: systems first, in turn, then pictures, then heights, then the rest."""

    def test_systems_ahead_of_all_else(self):
        for name, system in bad_systems():
            with self.subTest(name):
                for function, rests in OF_ONE:
                    for rest in rests:
                        self.assertRaises(BadSystem, function, system, *rest)
                for function, rests in OF_TWO:
                    for rest in rests:
                        self.assertRaises(BadSystem, function, system, FINE, *rest)
                        self.assertRaises(BadSystem, function, FINE, system, *rest)
                        self.assertRaises(BadSystem, function, system, system, *rest)

    def test_pictures(self):
        for name, picture in bad_pictures():
            with self.subTest(name):
                for system in [FINE, ("", [])]:
                    self.assertRaises(BadPicture, lets, system, picture)
                    self.assertRaises(BadPicture, number_of, system, picture)
                    self.assertRaises(BadPicture, shows, system, picture, [])

    def test_heights(self):
        for high in BAD_HEIGHTS:
            for system in [FINE, ("", []), ("abcd" * 4, [])]:
                for wide in [1, 12, 0, 13, LONG]:
                    self.assertRaises(BadSize, how_many, system, high, wide)
                    self.assertRaises(BadSize, picture_of, system, high, wide, 0)
                for other in [FINE, ("", [])]:
                    self.assertRaises(BadSize, told_height, system, other, high)
                    for pairs in [[], [((), ())], [(((-1,) * 5,), ((-1,) * 5,))]]:
                        self.assertRaises(BadSize, shows_alike, system, other, high, pairs)
                for rule in [[], ["a"], ["a"] * 5, ["e"]]:
                    self.assertRaises(BadSize, ruled, system, high, rule)
                    for paper in [([], []), ([(0,)], [(0,)])]:
                        self.assertRaises(BadSize, shows_rule, system, high, rule, paper)

    def test_parted_only_where_it_comes_to_such_a_height(self):
        for high in BAD_HEIGHTS:
            self.assertEqual(parted(FINE, ("", []), high) is None, high < 1)
            if high < 1:
                self.assertIsNone(parted(FINE, FINE, high))
            else:
                self.assertRaises(BadSize, parted, FINE, FINE, high)

    def test_handed_in_stays_where_it_is_refused(self):
        for name, system in bad_systems()[::3]:
            before = copy.deepcopy(system)
            for function, rests in OF_ONE:
                for rest in rests:
                    kept = copy.deepcopy(rest)
                    self.assertRaises(BadSystem, function, system, *rest)
                    self.assertEqual((system, rest), (before, kept))


if __name__ == "__main__":
    unittest.main()
