"""Promise 4: what's said leaves just the pages for which it's so."""

import itertools
import unittest

from tests.helper import could, cost, face, glyph, letter, line, band, column, one_line, page, scan, shop

STANDS, NOT, BARE = 0, 1, 2

# Letter 7 at columns 1 to 3, letter 9 at columns 4 to 5, both rows 1 to 3.
SHOP = shop([face(2, glyph(7, "??", "??", cost=4), glyph(9, "?", "?", cost=2), glyph(9, "??", "??"))])
SCAN = scan("??????", "??????", "??????", "??????")
PAGE = one_line(6, 4, letter(0, 1, 0), letter(0, 4, 1), row=1)
COST_OF_PAGE = 6


def box_points(x0, x1, y0, y1):
    return {(x, y) for x in range(x0, x1) for y in range(y0, y1)}


class Said(unittest.TestCase):
    def holds(self, said, expected):
        self.assertEqual(could(SHOP, SCAN, PAGE, said), [0, int(expected)], said)
        self.assertEqual(cost(SHOP, SCAN, PAGE, said), [0, COST_OF_PAGE] if expected else [-2], said)

    def wrong(self, said):
        self.assertEqual(could(SHOP, SCAN, PAGE, said), [-1], said)
        self.assertEqual(cost(SHOP, SCAN, PAGE, said), [-1], said)

    def test_nothing_said(self):
        self.holds([], True)

    def test_stands(self):
        self.holds([STANDS, 1, 3, 1, 3, 7], True)
        self.holds([STANDS, 4, 5, 1, 3, 9], True)
        self.holds([STANDS, 1, 3, 1, 3, 9], False)
        self.holds([STANDS, 4, 5, 1, 3, 7], False)
        self.holds([STANDS, 4, 5, 1, 3, 4095], False)

    def test_not(self):
        self.holds([NOT, 1, 3, 1, 3, 7], False)
        self.holds([NOT, 4, 5, 1, 3, 9], False)
        self.holds([NOT, 1, 3, 1, 3, 9], True)
        self.holds([NOT, 1, 3, 1, 3, 4095], True)

    def test_every_box(self):
        letters = {(1, 3, 1, 3): 7, (4, 5, 1, 3): 9}
        inked = box_points(1, 3, 1, 3) | box_points(4, 5, 1, 3)
        for x0, x1 in itertools.combinations(range(8), 2):
            for y0, y1 in itertools.combinations(range(6), 2):
                box = (x0, x1, y0, y1)
                for number in (7, 9):
                    there = letters.get(box) == number
                    self.holds([STANDS, *box, number], there)
                    self.holds([NOT, *box, number], not there)
                self.holds([BARE, *box, 0], not box_points(*box) & inked)

    def test_boxes_past_the_scan(self):
        self.holds([STANDS, 6, 7, 0, 1, 7], False)
        self.holds([STANDS, 1, 3, 1, 8192, 7], False)
        self.holds([NOT, 6, 7, 0, 1, 7], True)
        self.holds([NOT, 8191, 8192, 8191, 8192, 7], True)
        self.holds([BARE, 6, 8192, 0, 8192, 0], True)
        self.holds([BARE, 0, 8192, 4, 8192, 0], True)
        self.holds([BARE, 0, 8192, 0, 8192, 0], False)
        self.holds([BARE, 4, 8192, 2, 8192, 0], False)
        self.holds([BARE, 8191, 8192, 8191, 8192, 0], True)

    def test_all_that_is_said_is_asked(self):
        met = [[STANDS, 1, 3, 1, 3, 7], [STANDS, 4, 5, 1, 3, 9], [NOT, 0, 1, 0, 1, 7], [BARE, 3, 4, 0, 4, 0]]
        missed = [[STANDS, 0, 1, 0, 1, 7], [NOT, 4, 5, 1, 3, 9], [BARE, 0, 6, 0, 4, 0]]
        self.holds(sum(met, []), True)
        for one in missed:
            for k in range(len(met) + 1):
                self.holds(sum(met[:k] + [one] + met[k:], []), False)
        self.holds(met[0] + met[0], True)
        self.holds([STANDS, 1, 3, 1, 3, 7, NOT, 1, 3, 1, 3, 7], False)

    def test_the_last_of_many_letters(self):
        """The letters of every band, column and line are asked."""
        row = shop([face(1, glyph(1, "?"))])
        sheet = scan("????", "????", "????")
        told = page(
            0, band(0, 0, 2, 0,
                    column(0, 0, 2, line(0, 0, 0, letter(0, 0, 0), letter(0, 1, 0)), line(0, 1, 0, letter(0, 1, 0))),
                    column(0, 2, 4, line(0, 1, 0, letter(0, 3, 0)))),
            band(0, 2, 3, 0, column(0, 0, 4, line(0, 2, 0, letter(0, 2, 0)))))
        letters = {(0, 0), (1, 0), (1, 1), (3, 1), (2, 2)}
        for x, y in itertools.product(range(4), range(3)):
            there = int((x, y) in letters)
            self.assertEqual(could(row, sheet, told, [STANDS, x, x + 1, y, y + 1, 1]), [0, there])
            self.assertEqual(could(row, sheet, told, [NOT, x, x + 1, y, y + 1, 1]), [0, 1 - there])
            self.assertEqual(could(row, sheet, told, [BARE, x, x + 1, y, y + 1, 0]), [0, 1 - there])

    def test_what_is_said_makes_no_page_that_could_not_be(self):
        beyond = one_line(6, 4, letter(0, 5, 0), row=1)
        self.assertEqual(could(SHOP, SCAN, beyond, [STANDS, 5, 7, 1, 3, 7]), [0, 0])
        over = one_line(6, 4, letter(0, 1, 0), letter(0, 2, 1), row=1)
        self.assertEqual(could(SHOP, SCAN, over, [STANDS, 1, 3, 1, 3, 7]), [0, 0])
        self.assertEqual(could(SHOP, SCAN, over, [NOT, 0, 1, 0, 1, 7]), [0, 0])

    def test_not_six_numbers_each(self):
        said = [NOT, 0, 1, 0, 1, 5, NOT, 0, 1, 0, 1, 5]
        for size in range(13):
            if size % 6:
                self.wrong(said[:size])
            else:
                self.holds(said[:size], True)

    def test_a_kind_above_2(self):
        for number in (3, 4, 256, 2 ** 32 - 1):
            self.wrong([number, 0, 1, 0, 1, 0])

    def test_a_box_without_points(self):
        for sort in (STANDS, NOT, BARE):
            for box in ((0, 0, 0, 1), (0, 1, 0, 0), (2, 1, 0, 1), (0, 1, 2, 1), (8192, 8192, 0, 1), (1, 0, 1, 0)):
                self.wrong([sort, *box, 0])

    def test_a_box_past_8192(self):
        for sort in (STANDS, NOT, BARE):
            for box in ((0, 8193, 0, 1), (0, 1, 0, 8193), (8192, 8193, 0, 1), (0, 1, 0, 2 ** 32 - 1)):
                self.wrong([sort, *box, 0])
            self.holds([sort, 0, 8192, 0, 8192, 0], sort == NOT)

    def test_letters(self):
        for sort in (STANDS, NOT):
            self.holds([sort, 0, 1, 0, 1, 4095], sort == NOT)
            for number in (4096, 2 ** 32 - 1):
                self.wrong([sort, 0, 1, 0, 1, number])
        self.holds([BARE, 0, 1, 0, 1, 0], True)
        for number in (1, 7, 4095, 4096, 2 ** 32 - 1):
            self.wrong([BARE, 0, 1, 0, 1, number])

    def test_the_second_is_looked_at_too(self):
        good = [STANDS, 0, 1, 0, 1, 7]
        self.wrong(good + [3, 0, 1, 0, 1, 0])
        self.wrong(good + [BARE, 0, 1, 0, 1, 1])
        self.wrong(good + [NOT, 1, 1, 0, 1, 1])


if __name__ == "__main__":
    unittest.main()
