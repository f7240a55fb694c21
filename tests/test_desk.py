"""The desk: how calls come and are answered, and which refusal comes first."""

import unittest

from shoppages.desk import answers
from tests.helper import (
    COST, COULD, OPEN, TOKENS, band, call, column, face, glyph, kind, letter, line, one_line, page, patched,
    run, scan, shop)

SHOP = shop([face(1, glyph(1, "#"), glyph(2, ".")), face(2, glyph(3, "?", "?"))], [kind(), kind(faces=((1, 0),))])
PAGE = one_line(1, 1, letter(0, 0, 0))
NO_PAGE = one_line(1, 1, letter(0, 0, 1))
NO_SCAN = [83, 72, 84, 50]


class Form(unittest.TestCase):
    def test_numbers_in_and_out(self):
        handed = [1, len(SHOP)] + SHOP
        handed += [2, 13] + scan("#") + [0, 22] + PAGE
        handed += [3, 13] + scan("#") + [6, 1, 0, 1, 0, 1, 2, 22] + PAGE
        handed += [3, 13] + scan(".") + [0, 22] + PAGE
        handed += [4, 22] + PAGE + [5, 0, 1, 0, 1, 1]
        handed += [4, 1, 0, 0]
        handed += [4, 2, 0, 0, 0]
        handed += [2, 0, 0, 22] + PAGE
        self.assertEqual(len(PAGE), 22)
        self.assertEqual(answers(handed), [
            1, 0, 2, 0, 1, 2, 0, 0, 1, -2, 4, 0, 2, 5, 9, 1, -1, 2, 0, 0, 3, -5, 5, 0])

    def test_one_call(self):
        self.assertEqual(answers([1, 0]), [3, -5, 1, 0])
        self.assertEqual(answers([4, 0, 0]), [1, -9])

    def test_thirty_calls(self):
        told = run(call(OPEN, SHOP), *[call(TOKENS, PAGE, [])] * 29)
        self.assertEqual(told, [[0]] + [[0, 1, 9]] * 29)

    def test_no_shop_is_open_at_the_beginning(self):
        told = run(
            call(COULD, scan("#"), [], PAGE), call(COST, scan("#"), [], PAGE), call(TOKENS, PAGE, []),
            call(OPEN, SHOP), call(COULD, scan("#"), [], PAGE))
        self.assertEqual(told, [[-9], [-9], [-9], [0], [0, 1]])

    def test_what_is_handed_in_stays_and_nothing_is_kept(self):
        handed = call(TOKENS, PAGE, []) + call(OPEN, SHOP) + call(TOKENS, PAGE, [0, 1, 0, 1, 1])
        handed += call(COST, scan("#"), [0, 0, 1, 0, 1, 1], PAGE) + call(COULD, scan("#"), [], NO_PAGE)
        handed += call(COULD, NO_SCAN, [], PAGE) + call(OPEN, SHOP[:-1])
        kept = list(handed)
        first = answers(handed)
        self.assertEqual(handed, kept)
        second = answers(handed)
        self.assertEqual(handed, kept)
        self.assertEqual(first, second)
        self.assertEqual(first, [1, -9, 1, 0, 4, 0, 2, 5, 9, 2, 0, 0, 2, 0, 0, 3, -5, 1, 3, 3, -5, 1, 4])

    def test_an_answer_of_its_own(self):
        handed = call(OPEN, SHOP) + call(TOKENS, PAGE, [])
        first = answers(handed)
        first.append(99)
        self.assertEqual(answers(handed), [1, 0, 3, 0, 1, 9])

    def test_a_refusal_changes_nothing(self):
        calls = [
            call(COULD, NO_SCAN, [], PAGE), call(COST, scan("#"), [1], PAGE), call(TOKENS, PAGE, [1]),
            call(COST, scan("."), [], PAGE), call(OPEN, [])]
        for one in calls:
            told = run(call(OPEN, SHOP), one, call(COST, scan("#"), [], PAGE))
            self.assertLess(told[1][0], 0)
            self.assertEqual(told[2], [0, 0])


class Order(unittest.TestCase):
    """-9 ahead of -1 ahead of -5 ahead of -2."""

    def test_no_shop_is_first(self):
        told = run(
            call(COULD, NO_SCAN, [1], []), call(COST, NO_SCAN, [], []), call(TOKENS, [], [1]),
            call(COULD, NO_SCAN, [], PAGE), call(COST, scan("."), [], NO_PAGE))
        self.assertEqual(told, [[-9]] * 5)

    def told(self, scan_row, said, page_row, expected_could, expected_cost):
        told = run(call(OPEN, SHOP), call(COULD, scan_row, said, page_row), call(COST, scan_row, said, page_row))
        self.assertEqual(told[1:], [expected_could, expected_cost])

    def test_wrong_arguments_ahead_of_the_scans_faults(self):
        for said in ([1], [3, 0, 1, 0, 1, 0], [0, 0, 0, 0, 1, 0], [0, 0, 1, 0, 1, 4096], [2, 0, 1, 0, 1, 1]):
            for page_row in (PAGE, NO_PAGE, []):
                self.told(NO_SCAN, said, page_row, [-1], [-1])
        for page_row in ([], [0], [0, 0, 0], [0, 2, 0], one_line(1, 1, letter(0, 0, 2))):
            self.told(NO_SCAN, [], page_row, [-1], [-1])
            self.told([], [], page_row, [-1], [-1])
            self.told(scan("#"), [], page_row, [-1], [-1])

    def test_the_scans_faults_ahead_of_what_could_not_be(self):
        self.told(NO_SCAN, [], NO_PAGE, [-5, 1, 3], [-5, 1, 3])
        self.told([], [], page(9), [-5, 5, 0], [-5, 5, 0])
        self.told(scan("#") + [0], [1, 0, 1, 0, 1, 1], PAGE, [-5, 7, 13], [-5, 7, 13])
        self.told(scan("#"), [1, 0, 1, 0, 1, 1], PAGE, [0, 0], [-2])
        self.told(scan("#"), [], NO_PAGE, [0, 0], [-2])

    def test_tokens(self):
        told = run(
            call(OPEN, SHOP), call(TOKENS, [], []), call(TOKENS, PAGE, [1]), call(TOKENS, [], [1]),
            call(TOKENS, NO_PAGE, []))
        self.assertEqual(told[1:], [[-1], [-1], [-1], [0, 1, 10]])


class Pages(unittest.TestCase):
    """Promise 2: which numbers say a page."""

    def wrong(self, page_row):
        told = run(
            call(OPEN, SHOP), call(COULD, scan("#"), [], page_row), call(COST, scan("#"), [], page_row),
            call(TOKENS, page_row, []))
        self.assertEqual(told[1:], [[-1]] * 3, page_row)

    def right(self, page_row):
        told = run(
            call(OPEN, SHOP), call(COULD, scan("#"), [], page_row), call(COST, scan("#"), [], page_row),
            call(TOKENS, page_row, []))
        self.assertEqual([one[0] in (0, -2) for one in told], [True] * 4, page_row)

    def test_numbers_that_end_too_early_or_too_late(self):
        whole = page(
            0, band(0, 0, 1, 0, column(0, 0, 1, line(0, 0, 0, letter(0, 0, 0), letter(0, 1, 1)))),
            band(0, 1, 2, 1, column(0, 0, 1), column(0, 1, 2, line(0, 0, 1), line(0, 1, 1, letter(0, 0, 0)))))
        self.right(whole)
        for size in range(len(whole)):
            self.wrong(whole[:size])
        for more in ([0], [1], [0, 0], [1, 0, 0, 0]):
            self.wrong(whole + more)

    def test_neither_0_nor_1(self):
        for number in (2, 3, 255, 256, 2 ** 32 - 1):
            self.wrong([0, number])
            # Where PAGE tells of an item's beginning, and of the four levels' ends.
            for place, told in ((1, 1), (6, 1), (10, 1), (14, 1), (18, 0), (19, 0), (20, 0), (21, 0)):
                self.assertEqual(PAGE[place], told)
                self.wrong(patched(PAGE, place, [number]))

    def test_a_kind_that_the_shop_has_not(self):
        self.right(page(0, band(0, 0, 1, 1)))
        for number in (2, 3, 2 ** 32 - 1):
            self.wrong(page(0, band(0, 0, 1, number)))

    def test_a_face_that_the_shop_has_not(self):
        self.right(page(0, band(0, 0, 1, 0, column(0, 0, 1, line(0, 0, 1)))))
        for number in (2, 3, 2 ** 32 - 1):
            self.wrong(page(0, band(0, 0, 1, 0, column(0, 0, 1, line(0, 0, number)))))

    def test_a_glyph_that_the_face_has_not(self):
        self.right(one_line(1, 1, letter(0, 0, 1)))
        self.right(one_line(1, 1, letter(0, 0, 0), face_number=1))
        for number in (2, 3, 2 ** 32 - 1):
            self.wrong(one_line(1, 1, letter(0, 0, number)))
            self.wrong(one_line(1, 1, letter(0, 0, 0), letter(0, 1, number)))
        for number in (1, 2):
            self.wrong(one_line(1, 1, letter(0, 0, number), face_number=1))

    def test_any_other_number_may_be(self):
        huge = 2 ** 32 - 1
        self.right(page(huge, band(huge, huge, huge, 0, column(huge, huge, huge, line(huge, huge, 0, letter(
            huge, huge, 0))))))


if __name__ == "__main__":
    unittest.main()
