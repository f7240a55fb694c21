"""A scan's form, as could and cost take it."""

import unittest

from tests.helper import could, cost, face, glyph, letter, one_line, patched, scan, shop, u32

SHOP = shop([face(1, glyph(1, "?"))], slack=65536)
PAGE = one_line(1, 1, letter(0, 0, 0))
MARK = [83, 72, 84, 49]


def form(width, height, *rows):
    return MARK + u32(width) + u32(height) + list(rows)


class ScanForm(unittest.TestCase):
    def refused(self, row, rule, place):
        self.assertEqual(could(SHOP, row, PAGE), [-5, rule, place])
        self.assertEqual(cost(SHOP, row, PAGE), [-5, rule, place])

    def taken(self, row):
        self.assertEqual(could(SHOP, row, PAGE)[0], 0)

    def test_taken(self):
        self.taken(form(1, 1, 0))
        self.taken(form(1, 1, 64))
        self.taken(form(1, 1, 128))
        self.taken(form(2, 3, 1, 255, 64, 0))
        self.taken(form(64, 1, 63))
        self.taken(form(65, 2, 63, 0, 255))
        self.taken(form(130, 1, 64 + 63, 64 + 63, 64 + 1))
        self.taken(form(300, 1, 63, 63, 63, 63, 43))
        self.taken(form(192, 1, 63, 127, 191))

    def test_mark(self):
        good = form(1, 1, 0)
        for place in range(4):
            self.refused(patched(good, place, [good[place] ^ 1]), 1, place)
            self.refused(patched(good, place, [255])[:place + 1], 1, place)
        self.refused(patched(patched(good, 3, [0]), 1, [0]), 1, 1)

    def test_width(self):
        self.refused(form(0, 1, 0), 2, 4)
        self.refused(form(8193, 0, 0), 2, 4)
        self.refused(form(0, 0), 2, 4)
        self.refused(form(2 ** 32 - 1, 0), 2, 4)
        self.refused((MARK + u32(0))[:8], 2, 4)

    def test_height(self):
        self.refused(form(1, 0, 0), 2, 8)
        self.refused(form(8192, 0, 0), 2, 8)
        self.refused(form(8192, 8192), 2, 8)
        self.refused(form(1, 8193), 2, 8)
        self.refused(form(8192, 2049), 2, 8)
        self.refused(form(4096, 4097), 2, 8)
        self.refused(form(8192, 2048), 5, 12)
        self.refused(form(4096, 4096), 5, 12)
        self.refused(form(1, 8192), 5, 12)

    def test_no_run(self):
        for byte in (192, 193, 254, 255):
            self.refused(form(2, 2, byte), 3, 12)
            self.refused(form(2, 2, 0, byte), 3, 13)
        for byte in (192, 200, 254):
            self.refused(form(2, 2, 1, byte), 3, 13)
        self.refused(form(2, 2, 1, 0, 255), 3, 14)
        self.refused(form(2, 3, 1, 255, 0, 255), 3, 15)

    def test_a_run_too_long(self):
        self.refused(form(1, 1, 1), 4, 12)
        self.refused(form(2, 2, 2), 4, 12)
        self.refused(form(2, 2, 0, 65), 4, 13)
        self.refused(form(2, 2, 1, 64, 1), 4, 14)
        self.refused(form(65, 1, 63, 64 + 1), 4, 13)
        self.refused(form(63, 1, 191), 4, 12)
        self.refused(form(3, 2, 2, 0, 0, 129), 4, 15)

    def test_the_bytes_end(self):
        for good in (scan("#?.", "#?.", "...", "##?"), scan("." * 130, "#" * 130)):
            for size in range(len(good)):
                self.refused(good[:size], 5, size)

    def test_runs_that_should_be_one(self):
        self.refused(form(2, 1, 0, 0), 6, 12)
        self.refused(form(4, 1, 64, 1, 0), 6, 12)
        self.refused(form(65, 1, 0, 63), 6, 12)
        self.refused(form(65, 1, 62, 1), 6, 12)
        self.refused(form(130, 1, 63, 62, 2), 6, 12)
        self.refused(form(3, 2, 2, 64, 128, 128), 6, 13)

    def test_a_row_that_is_the_same_as_above(self):
        self.refused(form(2, 2, 1, 1), 6, 13)
        self.refused(form(2, 3, 1, 65, 65), 6, 14)
        self.refused(form(2, 3, 1, 255, 1), 6, 14)
        self.refused(form(2, 2, 0, 64, 0, 64), 6, 14)
        self.refused(form(2, 2, 1, 0, 0), 6, 13)
        self.taken(form(2, 3, 1, 65, 1))

    def test_one_form_is_asked_behind_the_row(self):
        self.refused(form(4, 1, 0, 0, 192), 3, 14)
        self.refused(form(4, 1, 0, 0, 2), 4, 14)
        self.refused(form(4, 1, 0, 0), 5, 14)
        self.refused(form(4, 1, 0, 0, 1, 9), 6, 12)
        self.refused(form(4, 2, 0, 0, 1, 192), 6, 12)
        self.refused(form(2, 2, 1, 0), 5, 14)

    def test_bytes_behind_the_last_row(self):
        self.refused(form(1, 1, 0, 0), 7, 13)
        self.refused(form(1, 1, 0, 255), 7, 13)
        self.refused(form(2, 2, 1, 255, 255), 7, 14)
        self.refused(scan("#?.", "...") + [1, 2, 3], 7, len(scan("#?.", "...")))

    def test_points_stand_as_told(self):
        """Each kind of point, told in runs and as a row like the one above."""
        rows = ("#.?.", "#.?.", "..##", "?#.#", "?#.#")
        row = scan(*rows)
        for x in range(4):
            for y in range(5):
                for need in "#.":
                    fits = rows[y][x] in (need, "?")
                    strict = shop([face(1, glyph(1, need))], slack=65536)
                    self.assertEqual(could(strict, row, one_line(4, 5, letter(0, x, 0), row=y)), [0, int(fits)])


if __name__ == "__main__":
    unittest.main()
