"""tokens, and promise 6: the watched token comes just where that letter stands there."""

import itertools
import unittest

from tests.helper import (
    band, column, face, glyph, kind, letter, level, line, one_line, page, shop, tokens)

NARROW = face(1, glyph(0, "?"), glyph(1, "?"), glyph(1, "??"), glyph(4095, "?"))
HIGH = face(3, glyph(2, "???", "???", "???"))


def gaps(*tokens_and_one):
    return level(gaps=[(0, 8192, 0, 0, number) for number in tokens_and_one])


SHOP = shop(
    [NARROW, HIGH],
    [kind(columns=gaps(4, 0), lines=gaps(2, 3, 0), letters=gaps(0, 1), faces=((0, 0),)),
     kind(columns=gaps(0, 4), lines=gaps(3, 2), letters=gaps(1), faces=((1, 0),))],
    gaps(0, 5))
LINE = line(0, 0, 0, letter(0, 0, 0))
COLUMN = column(0, 0, 1, LINE)


def lines_page(*lines):
    return page(0, band(0, 0, 9, 0, column(0, 0, 9, *lines)))


class Tokens(unittest.TestCase):
    def told(self, page_row, *expected):
        self.assertEqual(tokens(SHOP, page_row), [0, len(expected), *expected])

    def test_letters(self):
        self.told(one_line(9, 1, letter(0, 0, 0)), 8)
        self.told(one_line(9, 1, letter(0, 0, 1)), 9)
        self.told(one_line(9, 1, letter(0, 0, 2)), 9)
        self.told(one_line(9, 1, letter(0, 0, 3)), 4103)
        self.told(one_line(9, 1, letter(0, 0, 0), face_number=1), 10)

    def test_a_gap_of_words(self):
        self.told(one_line(9, 1, letter(0, 0, 0), letter(1, 5, 1)), 8, 0, 9)
        self.told(one_line(9, 1, letter(0, 0, 0), letter(0, 5, 1)), 8, 9)
        self.told(one_line(9, 1, letter(0, 0, 0), letter(1, 1, 1), letter(0, 2, 0), letter(1, 3, 3)),
                  8, 0, 9, 8, 0, 4103)

    def test_a_lines_and_a_paragraphs_end(self):
        for gap, between in ((0, [1]), (1, [2]), (2, [])):
            self.told(lines_page(LINE, line(gap, 1, 0, letter(0, 0, 1))), 8, *between, 9)

    def test_a_columns_end(self):
        for gap, between in ((0, [3]), (1, [])):
            self.told(page(0, band(0, 0, 1, 0, COLUMN, column(gap, 1, 2, LINE))), 8, *between, 8)

    def test_a_bands_end(self):
        for gap, between in ((0, []), (1, [4])):
            self.told(page(0, band(0, 0, 1, 0, COLUMN), band(gap, 1, 2, 0, COLUMN)), 8, *between, 8)

    def test_of_the_bands_own_kind(self):
        first = line(0, 0, 1, letter(0, 0, 0), letter(0, 1, 0))
        columns = [column(0, 0, 1, first, line(0, 1, 1, letter(0, 0, 0)), line(1, 1, 1, letter(0, 0, 0))),
                   column(0, 1, 2, LINE), column(1, 1, 2, LINE)]
        self.told(page(0, band(0, 0, 1, 1, *columns)), 10, 0, 10, 2, 10, 1, 10, 8, 3, 8)

    def test_all_levels_in_their_order(self):
        words = [letter(0, 0, 0), letter(1, 2, 1), letter(0, 4, 3)]
        left = column(0, 0, 5, line(0, 0, 0, *words), line(0, 1, 0, *words[:2]), line(1, 2, 0, words[0]))
        right = column(0, 6, 9, line(0, 0, 0, words[0]))
        lower = band(1, 4, 7, 1, column(0, 0, 9, line(0, 4, 1, letter(0, 0, 0), letter(0, 3, 0))))
        self.told(page(0, band(0, 0, 3, 0, left, right), lower),
                  8, 0, 9, 4103, 1, 8, 0, 9, 2, 8, 3, 8, 4, 10, 0, 10)

    def test_a_levels_first_has_no_gap(self):
        for gap in (0, 1, 2, 2 ** 32 - 1):
            told = page(0, band(gap, 0, 1, 0, column(gap, 0, 1, line(gap, 0, 0, letter(gap, 0, 0)))))
            self.told(told, 8)

    def test_a_gap_that_the_level_has_not(self):
        for gap in (3, 4, 8, 2 ** 32 - 1):
            self.told(one_line(9, 1, letter(0, 0, 0), letter(gap, 5, 1)), 8, 9)
            self.told(lines_page(LINE, line(gap, 1, 0, letter(0, 0, 1))), 8, 9)
            self.told(page(0, band(0, 0, 1, 0, COLUMN, column(gap, 1, 2, LINE))), 8, 8)
            self.told(page(0, band(0, 0, 1, 0, COLUMN), band(gap, 1, 2, 0, COLUMN)), 8, 8)
        self.told(one_line(9, 1, letter(0, 0, 0), letter(2, 5, 1)), 8, 9)
        self.told(page(0, band(0, 0, 1, 1, COLUMN, column(2, 1, 2, LINE))), 8, 8)

    def test_levels_without_items(self):
        self.told(page(0))
        self.told(page(0, band(0, 0, 1, 0)))
        self.told(page(0, band(0, 0, 1, 0, column(0, 0, 1))))
        self.told(lines_page(line(0, 0, 0)))
        self.told(page(0, band(0, 0, 1, 0), band(1, 1, 2, 0, COLUMN)), 4, 8)
        self.told(lines_page(line(0, 0, 0), LINE), 1, 8)

    def test_pages_that_no_scan_could_be(self):
        huge = 2 ** 32 - 1
        self.told(page(huge, band(0, 5, 3, 0, column(0, huge, 0, line(0, huge, 0, letter(0, huge, 0))))), 8)
        self.told(one_line(0, 0, letter(0, 5, 1), letter(1, 2, 0), letter(0, 2, 0)), 9, 0, 8, 8)

    def test_a_row_as_long_as_it_is(self):
        letters = [letter(0, k, 0) for k in range(90)]
        self.told(one_line(90, 1, *letters), *[8] * 90)


class Watched(unittest.TestCase):
    def told(self, page_row, watch, *expected):
        self.assertEqual(tokens(SHOP, page_row, watch), [0, len(expected), *expected])

    def setUp(self):
        self.page = one_line(9, 1, letter(0, 0, 0), letter(1, 2, 1), letter(0, 3, 2))

    def test_met(self):
        self.told(self.page, [], 8, 0, 9, 9)
        self.told(self.page, [0, 1, 0, 1, 0], 5, 8, 0, 9, 9)
        self.told(self.page, [2, 3, 0, 1, 1], 8, 0, 5, 9, 9)
        self.told(self.page, [3, 5, 0, 1, 1], 8, 0, 9, 5, 9)

    def test_not_met(self):
        for watch in (
                [0, 1, 0, 1, 1], [2, 3, 0, 1, 0], [3, 4, 0, 1, 1], [3, 5, 0, 1, 0], [3, 5, 0, 2, 1],
                [3, 5, 1, 2, 1], [2, 5, 0, 1, 1], [3, 6, 0, 1, 1], [0, 9, 0, 1, 0], [8191, 8192, 8191, 8192, 0],
                [0, 8192, 0, 8192, 4095]):
            self.told(self.page, watch, 8, 0, 9, 9)

    def test_a_box_as_high_as_the_face(self):
        told = one_line(9, 9, letter(0, 4, 0), row=5, face_number=1)
        self.told(told, [4, 7, 5, 8, 2], 5, 10)
        self.told(told, [4, 7, 5, 6, 2], 10)
        self.told(told, [4, 7, 5, 9, 2], 10)
        self.told(told, [4, 5, 5, 8, 2], 10)

    def test_behind_the_gaps_token(self):
        upper = band(0, 0, 1, 0, COLUMN)
        lower = band(1, 3, 4, 0, column(0, 0, 1, line(0, 3, 0, letter(0, 0, 0))))
        self.told(page(0, upper, lower), [0, 1, 3, 4, 0], 8, 4, 5, 8)
        self.told(page(0, upper, lower), [0, 1, 0, 1, 0], 5, 8, 4, 8)

    def test_met_more_than_once(self):
        """On a page that couldn't be, letters may stand on one another."""
        told = one_line(9, 1, letter(0, 2, 1), letter(1, 2, 1), letter(0, 2, 0))
        self.told(told, [2, 3, 0, 1, 1], 5, 9, 0, 5, 9, 8)

    def test_changes_nothing_else(self):
        told = page(
            0, band(0, 0, 2, 0,
                    column(0, 0, 2, line(0, 0, 0, letter(0, 0, 0), letter(1, 1, 1)), line(0, 1, 0, letter(0, 0, 2))),
                    column(0, 2, 4, line(0, 1, 0, letter(0, 3, 0)))),
            band(1, 2, 5, 1, column(0, 0, 4, line(0, 2, 1, letter(0, 1, 0)))))
        plain = tokens(SHOP, told)[2:]
        self.assertEqual(plain, [8, 0, 9, 1, 9, 3, 8, 4, 10])
        standing = {
            (0, 1, 0, 1): (0, 0), (1, 2, 0, 1): (1, 2), (0, 2, 1, 2): (1, 4), (3, 4, 1, 2): (0, 6),
            (1, 4, 2, 5): (2, 8)}
        for x0, x1 in itertools.combinations(range(6), 2):
            for y0, y1 in itertools.combinations(range(6), 2):
                for number in range(3):
                    expected = list(plain)
                    if standing.get((x0, x1, y0, y1), (9, 9))[0] == number:
                        expected.insert(standing[x0, x1, y0, y1][1], 5)
                    self.told(told, [x0, x1, y0, y1, number], *expected)

    def test_wrong_watches(self):
        good = [2, 3, 0, 1, 1]
        wrong = [good[:size] for size in range(1, 5)] + [good + [0], good + good]
        wrong += [[*box, 1] for box in (
            (2, 2, 0, 1), (3, 2, 0, 1), (2, 3, 1, 1), (2, 3, 1, 0), (0, 8193, 0, 1), (0, 1, 0, 8193),
            (0, 2 ** 32 - 1, 0, 1), (8192, 8193, 0, 1))]
        wrong += [[2, 3, 0, 1, number] for number in (4096, 2 ** 32 - 1)]
        for watch in wrong:
            self.assertEqual(tokens(SHOP, self.page, watch), [-1], watch)


if __name__ == "__main__":
    unittest.main()
