"""Points 129 to 132: packed pictures, differences and patches."""

import itertools
import unittest

from alikeplay.packing import difference, packed, patched, unpacked
from alikeplay.pictures import filled
from helpers import NO_INTEGERS, NO_TUPLES, Cases, check_arguments, check_pure
from pictures import LARGEST, NO_COLOURS, NO_PICTURES, NO_SIDES, PICTURE, picture_of, size, some_picture

PACKED = (3, 2, ((1, 5), (4, 0), (1, 63)))
NO_PACKED = (
    *NO_TUPLES, (), (3, 2), PACKED[:2], (*PACKED, 1), list(PACKED), *[(side, 2, PACKED[2]) for side in NO_SIDES], *[(3, side, PACKED[2]) for side in NO_SIDES],
    (2, 2, PACKED[2]), (3, 3, PACKED[2]), (3, 1, PACKED[2]), (1, 1, ()), (3, 2, ((1, 5), (5, 0), (1, 63))), (3, 2, ((1, 5), (3, 0), (1, 63))),
    (3, 2, ((1, 5), (4, 5), (1, 63))), (3, 2, ((3, 1), (3, 1))), (3, 2, ((0, 1), (6, 2))), (3, 2, ((6, 1), (0, 2))), (3, 2, ((7, 1), (-1, 2))),
    (3, 2, ((10 ** 40, 1),)), *[(3, 2, runs) for runs in (*NO_TUPLES, (6, 1), [(6, 1)], ([6, 1],), ((6,),), ((6, 1, 1),), (None,), ((6, 1), None))],
    *[(1, 1, ((value, 5),)) for value in NO_INTEGERS], *[(3, 2, ((1, 5), (5, colour))) for colour in NO_COLOURS], (65, 1, ((65, 1),)),
)
# Patches of a picture of three columns and two rows.
NO_PATCHES = (
    *NO_TUPLES, (1, 0, (5,)), [(1, 0, (5,))], ([1, 0, (5,)],), ((1, 0),), ((1, 0, (5,), 1),), ((1, 0, ()),), ((1, 0, [5]),), ((1, 0, 5),), ((1, 0, "5"),),
    ((-1, 0, (5,)),), ((3, 0, (5,)),), ((0, -1, (5,)),), ((0, 2, (5,)),), ((1, 0, (5, 5, 5)),), ((2, 1, (5, 5)),), ((0, 0, (1, 1, 1, 1)),),
    ((-1, 0, (5, 5)),), ((0, 0, (5,)), (1, 0, (5,))), ((0, 0, (5, 5)), (2, 0, (5,))), ((0, 0, (5, 5)), (1, 0, (5,))), ((0, 0, (5,)), (0, 0, (5,))),
    ((2, 0, (5,)), (0, 0, (5,))), ((0, 1, (5,)), (2, 0, (5,))), ((0, 1, (5,)), (0, 0, (5,))), ((0, 0, (5,)), (2, 1, (5,)), (2, 0, (5,))),
    ((0, 0, (1, 2, 3)), (0, 0, (4,))), ((0, 0, (5,)), None), *[((value, 0, (5,)),) for value in NO_INTEGERS], *[((0, value, (5,)),) for value in NO_INTEGERS],
    *[((0, 0, (5, colour)),) for colour in NO_COLOURS],
)


def flat(picture):
    return [colour for row in picture for colour in row]


class PackingTests(unittest.TestCase):
    def test_document(self):
        self.assertEqual(packed(((1, 1), (1, 2))), (2, 2, ((3, 1), (1, 2))))

    def test_runs(self):
        self.assertEqual(packed(((5, 0, 0), (0, 0, 63))), PACKED)
        self.assertEqual(packed(((0,),)), (1, 1, ((1, 0),)))
        self.assertEqual(packed(filled(64, 64, 63)), (64, 64, ((4096, 63),)))
        self.assertEqual(packed(((1, 2), (2, 1))), (2, 2, ((1, 1), (2, 2), (1, 1))))
        self.assertEqual(packed(((1, 2, 2, 1),)), (4, 1, ((1, 1), (2, 2), (1, 1))))
        self.assertEqual(packed(LARGEST)[2][:3], ((1, 0), (1, 1), (1, 2)))

    def test_there_and_back(self):
        cases = Cases(181)
        for picture in [LARGEST, filled(64, 1, 0), filled(1, 64, 0)] + [some_picture(cases, 7, (0, 0, 0, 1)) for _ in range(200)]:
            width, height, runs = check_pure(self, packed, picture)
            self.assertEqual((width, height), size(picture))
            self.assertEqual(runs, tuple((len(list(group)), colour) for colour, group in itertools.groupby(flat(picture))))
            self.assertEqual(check_pure(self, unpacked, (width, height, runs)), picture)

    def test_unpacked(self):
        self.assertEqual(unpacked(PACKED), ((5, 0, 0), (0, 0, 63)))
        self.assertEqual(unpacked((1, 6, PACKED[2])), ((5,), (0,), (0,), (0,), (0,), (63,)))
        self.assertEqual(unpacked((64, 64, ((1, 0), (4095, 1))))[63], (1,) * 64)

    def test_arguments(self):
        check_arguments(self, packed, (LARGEST,), (("picture", NO_PICTURES),))
        check_arguments(self, unpacked, (PACKED,), (("packed", NO_PACKED),))


class DifferenceTests(unittest.TestCase):
    def test_document(self):
        self.assertEqual(difference(((1, 1, 1),), ((1, 3, 4),)), ((1, 0, (3, 4)),))

    def test_differences(self):
        first = ((1, 1, 1, 1), (2, 2, 2, 2))
        for second, expected in (
                (first, ()),
                (((0, 1, 1, 1), (2, 2, 2, 2)), ((0, 0, (0,)),)),
                (((1, 1, 1, 5), (5, 2, 2, 2)), ((3, 0, (5,)), (0, 1, (5,)))),
                (((5, 1, 6, 7), (2, 8, 2, 9)), ((0, 0, (5,)), (2, 0, (6, 7)), (1, 1, (8,)), (3, 1, (9,)))),
                (((5, 6, 7, 8), (1, 1, 1, 1)), ((0, 0, (5, 6, 7, 8)), (0, 1, (1, 1, 1, 1))))):
            self.assertEqual(check_pure(self, difference, first, second), expected)
            self.assertEqual(check_pure(self, patched, first, expected), second)
        self.assertEqual(difference(filled(64, 64, 0), filled(64, 64, 1)), tuple((0, y, (1,) * 64) for y in range(64)))

    def test_drawn_pictures(self):
        cases = Cases(182)
        for _ in range(300):
            first = some_picture(cases, 7, (0, 1))
            width, height = size(first)
            second = cases.one((some_picture(cases, colours=(0, 1), size=(width, height)), first,
                                picture_of(width, height, lambda x, y: first[y][x] if cases.whole(0, 3) else 5)))
            patch = check_pure(self, difference, first, second)
            places = [(x + index, y) for x, y, colours in patch for index in range(len(colours))]
            self.assertEqual(places, [(x, y) for y in range(height) for x in range(width) if first[y][x] != second[y][x]])
            self.assertEqual([colour for _, _, colours in patch for colour in colours], [second[y][x] for x, y in places])
            # Parts of one row have pixels between them that stay.
            self.assertTrue(all(one[1] < two[1] or one[0] + len(one[2]) < two[0] for one, two in zip(patch, patch[1:])))
            self.assertEqual(patched(first, patch), second)
            self.assertEqual(patched(second, difference(second, first)), first)

    def test_patches(self):
        picture = ((1, 2, 3), (4, 5, 6))
        for patch, expected in (
                ((), picture), (((0, 0, (1,)),), picture), (((0, 0, (1, 9, 3)),), ((1, 9, 3), (4, 5, 6))),
                (((0, 0, (7,)), (2, 0, (8,))), ((7, 2, 8), (4, 5, 6))), (((2, 0, (0,)), (0, 1, (63,))), ((1, 2, 0), (63, 5, 6))),
                (((0, 0, (7, 7, 7)), (0, 1, (8, 8, 8))), ((7, 7, 7), (8, 8, 8))), (((1, 1, (0, 0)),), ((1, 2, 3), (4, 0, 0)))):
            self.assertEqual(check_pure(self, patched, picture, patch), expected)

    def test_arguments(self):
        sizes = (filled(3, 1, 0), filled(2, 2, 0), filled(3, 3, 0), filled(2, 3, 0), filled(4, 2, 0), LARGEST)
        check_arguments(self, difference, (PICTURE, filled(3, 2, 0)), (("first", NO_PICTURES), ("second", (*NO_PICTURES, *sizes))))
        check_arguments(self, patched, (PICTURE, ((0, 0, (5,)),)), (("picture", NO_PICTURES), ("patch", NO_PATCHES)))


if __name__ == "__main__":
    unittest.main()
