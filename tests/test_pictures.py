"""Points 123, 124 and 131: pictures."""

import unittest

from alikeplay.pictures import cropped, filled, flipped, is_picture, mirrored, pasted
from helpers import Cases, check_arguments, check_pure
from pictures import LARGEST, NO_COLOURS, NO_PICTURES, NO_SIDES, PICTURE, picture_of, pixels, size, some_picture
from test_boxes import NO_BOXES, NO_COORDINATES

FAR = 20000


class PictureTests(unittest.TestCase):
    def test_is_picture(self):
        for picture in (PICTURE, LARGEST, ((0,),), ((63,),), ((0,) * 64,), ((0,),) * 64):
            self.assertIs(is_picture(picture), True)
        for value in NO_PICTURES:
            self.assertIs(is_picture(value), False, value)

    def test_filled(self):
        self.assertEqual(check_pure(self, filled, 3, 2, 5), ((5, 5, 5), (5, 5, 5)))
        self.assertEqual(filled(1, 1, 0), ((0,),))
        self.assertEqual(filled(64, 1, 63), ((63,) * 64,))
        self.assertEqual(filled(1, 64, 63), ((63,),) * 64)
        self.assertEqual(size(filled(64, 64, 1)), (64, 64))
        check_arguments(self, filled, (64, 64, 0), (("width", NO_SIDES), ("height", NO_SIDES), ("colour", NO_COLOURS)))

    def test_cropped(self):
        self.assertEqual(cropped(PICTURE, (1, 0, 3, 1)), ((0, 3),))
        self.assertEqual(cropped(PICTURE, (0, 0, 3, 2)), PICTURE)
        self.assertEqual(cropped(PICTURE, (2, 1, 3, 2)), ((2,),))
        self.assertEqual(cropped(LARGEST, (63, 0, 64, 64)), tuple(((63 + y) % 64,) for y in range(64)))
        cases = Cases(161)
        for _ in range(200):
            picture = some_picture(cases)
            width, height = size(picture)
            x0, y0 = cases.whole(0, width - 1), cases.whole(0, height - 1)
            x1, y1 = cases.whole(x0 + 1, width), cases.whole(y0 + 1, height)
            expected = picture_of(x1 - x0, y1 - y0, lambda x, y: pixels(picture)[x0 + x, y0 + y])
            self.assertEqual(check_pure(self, cropped, picture, (x0, y0, x1, y1)), expected)

    def test_no_box_within(self):
        boxes = (*NO_BOXES, (-1, 0, 2, 2), (0, -1, 2, 2), (0, 0, 4, 2), (0, 0, 3, 3), (0, 0, FAR, 1), (-FAR, -FAR, FAR, FAR), (3, 0, 4, 1), (0, 2, 1, 3),
                 (-2, 0, -1, 1), (0, 0, 2, 3), (1, 1, 1, 2))
        check_arguments(self, cropped, (PICTURE, (0, 0, 3, 2)), (("picture", NO_PICTURES), ("box", boxes)))

    def test_mirrored_and_flipped(self):
        self.assertEqual(mirrored(PICTURE), ((3, 0, 1), (2, 63, 0)))
        self.assertEqual(flipped(PICTURE), ((0, 63, 2), (1, 0, 3)))
        cases = Cases(162)
        for picture in [LARGEST] + [some_picture(cases) for _ in range(60)]:
            width, height = size(picture)
            dots = pixels(picture)
            self.assertEqual(check_pure(self, mirrored, picture), picture_of(width, height, lambda x, y: dots[width - 1 - x, y]))
            self.assertEqual(check_pure(self, flipped, picture), picture_of(width, height, lambda x, y: dots[x, height - 1 - y]))
            self.assertEqual((mirrored(mirrored(picture)), flipped(flipped(picture))), (picture, picture))
        check_arguments(self, mirrored, (PICTURE,), (("picture", NO_PICTURES),))
        check_arguments(self, flipped, (PICTURE,), (("picture", NO_PICTURES),))


class PasteTests(unittest.TestCase):
    def test_document(self):
        self.assertEqual(pasted(filled(3, 1, 2), 2, 0, ((4, 4),)), ((2, 2, 4),))

    def test_clear_pixels(self):
        self.assertEqual(pasted(((1, 2), (3, 4)), 0, 0, ((0, 5), (6, 0))), ((1, 5), (6, 4)))
        self.assertEqual(pasted(PICTURE, 0, 0, filled(3, 2, 0)), PICTURE)
        self.assertEqual(pasted(((0, 0),), 1, 0, ((7,),)), ((0, 7),))

    def test_beyond_the_picture(self):
        dot = filled(2, 2, 9)
        self.assertEqual(pasted(filled(2, 2, 1), -1, -1, dot), ((9, 1), (1, 1)))
        self.assertEqual(pasted(filled(2, 2, 1), 1, 1, dot), ((1, 1), (1, 9)))
        self.assertEqual(pasted(filled(2, 2, 1), 1, -1, dot), ((1, 9), (1, 1)))
        for x, y in ((2, 0), (0, 2), (-2, 0), (0, -2), (FAR, FAR), (-FAR, -FAR), (-FAR, 0), (0, FAR)):
            self.assertEqual(pasted(filled(2, 2, 1), x, y, dot), filled(2, 2, 1))
        self.assertEqual(pasted(((1,),), -63, -63, LARGEST), ((126 % 64,),))
        self.assertEqual(pasted(((1,),), -63, -1, LARGEST), ((1,),))

    def test_drawn_pictures(self):
        cases = Cases(163)
        for _ in range(300):
            picture, sprite = some_picture(cases), some_picture(cases)
            x, y = cases.whole(-6, 6), cases.whole(-6, 6)
            dots = pixels(picture)
            dots.update({(x + i, y + j): colour for (i, j), colour in pixels(sprite).items() if colour and (x + i, y + j) in dots})
            expected = picture_of(*size(picture), lambda i, j: dots[i, j])
            self.assertEqual(check_pure(self, pasted, picture, x, y, sprite), expected)

    def test_arguments(self):
        wrong = (("picture", NO_PICTURES), ("x", NO_COORDINATES), ("y", NO_COORDINATES), ("sprite", NO_PICTURES))
        check_arguments(self, pasted, (PICTURE, FAR, -FAR, LARGEST), wrong)


if __name__ == "__main__":
    unittest.main()
