"""Poses: how a scan lies in them, and which a page may have."""

import unittest

from tests.helper import band, column, could, cost, face, glyph, letter, line, one_line, page, scan, shop

SCAN = scan("#.#..", "#.#..", "#.#..", "#.#..")

# By floor(s (2 y - 4) / 8): s = 3 moves the rows by -2, -1, 0, 0; s = -3 by 1, 0, 0, -1; s = 1 by -1, -1, 0, 0;
# s = -1 by 0, 0, 0, -1; s = 8 by -4, -2, 0, 2; s = 31 by -16, -8, 0, 7; s = -31 by 15, 7, 0, -8.
POSED = {
    0: ("#.#..", "#.#..", "#.#..", "#.#.."),
    1: (".#..?", ".#..?", "#.#..", "#.#.."),
    -1: ("#.#..", "#.#..", "#.#..", ".#..?"),
    3: ("#..??", ".#..?", "#.#..", "#.#.."),
    -3: ("?#.#.", "#.#..", "#.#..", ".#..?"),
    8: (".????", "#..??", "#.#..", "??#.#"),
    31: ("?????", "?????", "#.#..", "?????"),
    -31: ("?????", "?????", "#.#..", "?????")}


class Poses(unittest.TestCase):
    def looks(self, scan_row, pose, upright, rows):
        """Asks each point by a letter that must be paper there, and one that must be ink."""
        row = shop([face(1, glyph(1, "."), glyph(2, "#"))], slack=65536, upright=upright)
        for y, signs in enumerate(rows):
            for x, sign in enumerate(signs):
                for number, need in enumerate(".#"):
                    told = one_line(len(signs), len(rows), letter(0, x, number), pose=pose + upright, row=y)
                    fits = int(sign in (need, "?"))
                    self.assertEqual(could(row, scan_row, told), [0, fits], (pose, x, y, need))

    def test_each_row_goes_its_way(self):
        for pose, rows in POSED.items():
            self.looks(SCAN, pose, 31, rows)

    def test_an_odd_number_of_rows(self):
        # s = 5 moves by floor(-15 / 6), floor(-5 / 6), floor(5 / 6); s = -5 by 2, 0, -1.
        rows = ("#..#", ".##.", "#?#.")
        self.looks(scan(*rows), 5, 6, ("#???", "##.?", "#?#."))
        self.looks(scan(*rows), -5, 5, ("??#.", ".##.", "?#.?"))

    def test_one_row(self):
        # floor(s (0 - 1) / 2).
        self.looks(scan("#.#"), 1, 2, (".#?",))
        self.looks(scan("#.#"), 2, 2, (".#?",))
        self.looks(scan("#.#"), -1, 2, ("#.#",))
        self.looks(scan("#.#"), -2, 2, ("?#.",))

    def test_blanks_are_of_the_posed_scan(self):
        row = shop([face(4, glyph(1, *"????"))], upright=3, pose_cost=10)
        specks = scan("..#..", ".....", ".....", ".....")
        # In s = 3 row 0 goes two columns to the left, in s = -3 one to the right.
        for at, pose, told in (
                (2, 3, 0), (0, 6, 30), (2, 6, None), (3, 0, 30), (2, 0, None), (0, 3, None), (1, 4, 10)):
            answer = [-2] if told is None else [0, told]
            self.assertEqual(cost(row, specks, one_line(5, 4, letter(0, at, 0), pose=pose)), answer)

    def test_what_goes_out_of_the_scan_is_gone(self):
        row = shop([face(1, glyph(1, "."))], upright=3)
        specks = scan("##...", ".....", ".....", ".....")
        letters = letter(0, 4, 0)
        self.assertEqual(could(row, specks, one_line(5, 4, letters, pose=3, row=3)), [0, 0])
        self.assertEqual(could(row, specks, one_line(5, 4, letters, pose=4, row=3)), [0, 0])
        self.assertEqual(could(row, specks, one_line(5, 4, letters, pose=6, row=3)), [0, 1])

    def test_poses_of_the_shop(self):
        for upright in (0, 1, 31):
            row = shop([face(1, glyph(1, "?"))], upright=upright, pose_cost=7)
            for pose in range(2 * upright + 1):
                told = one_line(1, 1, letter(0, 0, 0), pose=pose)
                self.assertEqual(could(row, scan("?"), told), [0, 1])
                self.assertEqual(cost(row, scan("?"), told), [0, 7 * abs(pose - upright)])
            for pose in (2 * upright + 1, 2 * upright + 2, 2 ** 32 - 1):
                told = one_line(1, 1, letter(0, 0, 0), pose=pose)
                self.assertEqual(could(row, scan("?"), told), [0, 0])
                self.assertEqual(cost(row, scan("?"), told), [-2])

    def test_what_is_said_is_said_of_the_posed_scan(self):
        row = shop([face(1, glyph(1, "#"))], upright=4)
        specks = scan("...#.", ".....")
        # s = 4 moves row 0 by floor(4 * -2 / 4) = -2.
        moved = page(8, band(0, 0, 2, 0, column(0, 0, 5, line(0, 0, 0, letter(0, 1, 0)))))
        self.assertEqual(could(row, specks, moved), [0, 1])
        self.assertEqual(could(row, specks, moved, [0, 1, 2, 0, 1, 1]), [0, 1])
        self.assertEqual(could(row, specks, moved, [0, 3, 4, 0, 1, 1]), [0, 0])
        self.assertEqual(could(row, specks, moved, [2, 3, 4, 0, 1, 0]), [0, 1])
        self.assertEqual(could(row, specks, moved, [2, 1, 2, 0, 1, 0]), [0, 0])


if __name__ == "__main__":
    unittest.main()
