"""draw: how a page looks, as a scan's bytes; and promise 3, that it could be what's drawn."""

import itertools
import random
import unittest

from tests.helper import (
    COULD, OPEN, band, call, column, could, draw_call, drawn, face, glyph, kind, letter, line, one_line, page, run,
    scan, shop)
from tests.test_best_reckoned import SIZES, FewPlan, all_pages
from tests.test_reckoned import Plan, drawn_page, letters_of, numbers_of, reckoned

MARKS = face(2, glyph(1, "#.", "?#"), glyph(2, "#", "."), glyph(3, "?", "?"), glyph(4, "...", "###"))
LOW = face(1, glyph(1, "#"), glyph(2, "."), glyph(3, "?"))
SHOP = shop([MARKS, LOW], [kind(), kind(faces=((1, 0),))], upright=1)
HUGE = 2 ** 32 - 1


def lines_page(*lines):
    return page(1, band(0, 0, 9, 0, column(0, 0, 9, *lines)))


class Drawn(unittest.TestCase):
    def looks(self, page_row, *rows):
        form = scan(*rows)
        self.assertEqual(drawn(SHOP, len(rows[0]), len(rows), page_row), [0, len(form)] + form, page_row)

    def test_ink_paper_and_free(self):
        self.looks(one_line(2, 2, letter(0, 0, 0)), "#.", "?#")
        self.looks(one_line(4, 3, letter(0, 1, 0), row=1), "....", ".#..", ".?#.")
        self.looks(one_line(3, 2, letter(0, 0, 3)), "...", "###")
        self.looks(one_line(3, 1, letter(0, 0, 2), letter(0, 2, 0), face_number=1), "?.#")

    def test_numbers_answered(self):
        self.assertEqual(drawn(SHOP, 2, 2, one_line(2, 2, letter(0, 0, 0))), [
            0, 16, 83, 72, 84, 49, 2, 0, 0, 0, 2, 0, 0, 0, 64, 0, 128, 64])
        self.assertEqual(drawn(SHOP, 1, 3, page(0)), [0, 15, 83, 72, 84, 49, 1, 0, 0, 0, 3, 0, 0, 0, 0, 255, 255])

    def test_a_page_without_letters(self):
        for told in (page(0), page(0, band(0, 0, 1, 0)), page(0, band(0, 0, 1, 0, column(0, 0, 1))), lines_page(
                line(0, 0, 0))):
            self.looks(told, "....", "....", "....")

    def test_letters_of_all_levels(self):
        upper = band(
            0, 0, 2, 0,
            column(0, 0, 2, line(0, 0, 0, letter(0, 0, 0)), line(0, 2, 1, letter(0, 0, 2))),
            column(0, 3, 6, line(0, 0, 1, letter(0, 3, 0), letter(0, 5, 0))))
        lower = band(0, 3, 5, 1, column(0, 0, 6, line(0, 3, 0, letter(0, 1, 1), letter(0, 3, 3))))
        self.looks(page(1, upper, lower), "#..#.#", "?#....", "?.....", ".#....", "...###")

    def test_the_first_where_letters_overlap(self):
        self.looks(one_line(3, 2, letter(0, 0, 0), letter(0, 1, 1)), "#..", "?#.")
        self.looks(one_line(3, 2, letter(0, 1, 1), letter(0, 0, 0)), "##.", "?..")
        self.looks(one_line(3, 2, letter(0, 0, 3), letter(0, 0, 2), letter(0, 1, 0)), "...", "###")
        # A free point of the first is unclear, and paper that must be stays paper.
        self.looks(one_line(2, 2, letter(0, 0, 2), letter(0, 0, 1), letter(0, 1, 1)), "?#", "?.")
        self.looks(lines_page(line(0, 1, 1, letter(0, 0, 1)), line(0, 0, 0, letter(0, 0, 3))), "...", ".##")
        self.looks(lines_page(line(0, 0, 0, letter(0, 0, 3)), line(0, 1, 1, letter(0, 0, 1))), "...", "###")

    def test_the_first_of_lines_columns_and_bands(self):
        ink, paper, free = [line(0, 0, 1, letter(0, 0, k)) for k in range(3)]
        for order in itertools.permutations(((ink, "#"), (paper, "."), (free, "?"))):
            inner = [one for one, sign in order]
            self.looks(lines_page(*inner), order[0][1])
            self.looks(page(0, band(0, 0, 1, 0, *[column(0, 0, 1, one) for one in inner])), order[0][1])
            self.looks(page(0, *[band(0, 0, 1, 0, column(0, 0, 1, one)) for one in inner]), order[0][1])

    def test_past_the_width_or_height(self):
        told = one_line(9, 9, letter(0, 1, 0), row=1)
        self.looks(told, "....", ".#..", ".?#.", "....")
        self.looks(told, "..", ".#", ".?")
        self.looks(told, "...", ".#.")
        self.looks(told, "..", ".#")
        self.looks(told, ".", ".")
        self.looks(told, ".....")
        for x, y in ((2, 0), (0, 2), (HUGE, 0), (0, HUGE), (HUGE, HUGE), (8192, 8192)):
            self.looks(one_line(9, 9, letter(0, x, 3), row=y), "..", "..")

    def test_what_is_past_the_end_does_not_come_round(self):
        self.looks(one_line(9, 9, letter(0, 2, 3), letter(0, 3, 0)), "...", "..#")

    def test_the_pose_is_not_looked_at(self):
        for pose in (0, 1, 2, 3, HUGE):
            self.looks(one_line(3, 2, letter(0, 0, 0), pose=pose), "#..", "?#.")

    def test_pages_that_could_not_be(self):
        # Gaps, bands and columns of any kind; a face that the kind has not.
        told = page(HUGE, band(HUGE, 5, 3, 1, column(7, HUGE, 0, line(9, 0, 0, letter(3, 1, 1), letter(9, 0, 1)))))
        self.looks(told, "##.", "...")

    def test_wide_glyphs(self):
        signs = "#.?##..?#.#?.#..####" * 3
        row = shop([face(1, glyph(1, signs))])
        form = scan("." + signs + "..")
        self.assertEqual(drawn(row, 63, 1, one_line(63, 1, letter(0, 1, 0))), [0, len(form)] + form)


class Form(unittest.TestCase):
    """A scan's one form."""

    def drawn_form(self, width, height, page_row):
        answer = drawn(SHOP, width, height, page_row)
        self.assertEqual(answer[:2], [0, len(answer) - 2])
        return answer[2:]

    def test_runs_of_64(self):
        head = [83, 72, 84, 49]
        for width, runs in (
                (1, [0]), (63, [62]), (64, [63]), (65, [63, 0]), (128, [63, 63]), (129, [63, 63, 0]),
                (300, [63, 63, 63, 63, 43])):
            told = self.drawn_form(width, 1, page(0))
            self.assertEqual(told, head + [width % 256, width // 256, 0, 0, 1, 0, 0, 0] + runs)

    def test_runs_of_64_of_ink_and_unclear(self):
        for sign, kind_of_point in (("#", 1), ("?", 2)):
            row = shop([face(1, glyph(1, sign * 60))])
            told = one_line(200, 1, *[letter(0, 60 * k, 0) for k in range(3)])
            answer = drawn(row, 200, 1, told)
            runs = [64 * kind_of_point + 63, 64 * kind_of_point + 63, 64 * kind_of_point + 51, 19]
            self.assertEqual(answer[2 + 12:], runs)

    def test_rows_the_same_as_the_one_above(self):
        self.assertEqual(self.drawn_form(3, 4, page(0))[12:], [2, 255, 255, 255])
        told = one_line(3, 5, letter(0, 0, 0), row=1, face_number=1)
        self.assertEqual(self.drawn_form(3, 5, told)[12:], [2, 64, 1, 2, 255, 255])
        two = lines_page(line(0, 0, 1, letter(0, 2, 0)), line(0, 1, 1, letter(0, 2, 0)))
        self.assertEqual(self.drawn_form(3, 3, two)[12:], [1, 64, 255, 2])
        free = lines_page(line(0, 0, 1, letter(0, 0, 2)), line(0, 1, 1, letter(0, 1, 2)))
        self.assertEqual(self.drawn_form(2, 2, free)[12:], [128, 0, 0, 128])

    def test_each_drawn_form_is_taken(self):
        anywhere = page(0)
        for seed in range(200):
            draw = random.Random(seed)
            letters = [letter(0, draw.randrange(9), draw.randrange(4)) for k in range(draw.randrange(6))]
            told = one_line(9, 9, *letters, row=draw.randrange(4))
            form = self.drawn_form(draw.randint(1, 12), draw.randint(1, 6), told)
            self.assertEqual(could(SHOP, form, anywhere), [0, 0])


class Refused(unittest.TestCase):
    def refused(self, width, height, page_row):
        self.assertEqual(drawn(SHOP, width, height, page_row), [-1], (width, height))

    def test_no_shop(self):
        told = run(draw_call(1, 1, page(0)), draw_call(0, 0, []), call(OPEN, SHOP), draw_call(1, 1, page(0)))
        self.assertEqual(told, [[-9], [-9], [0], [0, 13] + scan(".")])

    def test_width(self):
        for width in (0, 8193, 2 ** 24, HUGE):
            self.refused(width, 0, page(0))
        for height in (1, 300, 8192, HUGE):
            self.refused(0, height, page(0))
        self.refused(8193, 1, page(0))
        self.assertEqual(drawn(SHOP, 300, 1, page(0))[0], 0)
        self.assertEqual(drawn(SHOP, 8192, 1, page(0))[0], 0)

    def test_height(self):
        for height in (0, 8193, HUGE):
            self.refused(1, height, page(0))
        self.assertEqual(drawn(SHOP, 1, 300, page(0))[0], 0)
        self.assertEqual(drawn(SHOP, 1, 8192, page(0)), [0, 12 + 8192] + scan(*["."] * 8192))

    def test_more_than_2_24_points(self):
        for width, height in ((8192, 2049), (2049, 8192), (4097, 4096), (8192, 8192)):
            self.refused(width, height, page(0))

    def test_page(self):
        self.assertEqual(drawn(SHOP, 2, 2, one_line(2, 2, letter(0, 0, 3)))[0], 0)
        wrong = [
            [], [0], [0, 2], [0, 0, 0], [1, 1, 0, 0, 1, 0], one_line(2, 2, letter(0, 0, 4)),
            one_line(2, 2, letter(0, 0, 3), face_number=1), one_line(2, 2, face_number=2),
            page(0, band(0, 0, 1, 2)), one_line(2, 2, letter(0, 0, 0)) + [0], one_line(2, 2, letter(0, 0, 0))[:-1]]
        for page_row in wrong:
            self.refused(2, 2, page_row)
            self.refused(0, 2, page_row)


class CouldBe(unittest.TestCase):
    """Promise 3: a page that could stand on an all unclear sheet, drawn, could be what's drawn."""

    def check(self, plan, told, width, height):
        """Whether the page could be on the unclear sheet at all."""
        form, numbers = plan.form(), numbers_of(told)
        unclear = scan(*["?" * width] * height)
        answers = run(call(OPEN, form), call(COULD, unclear, [], numbers), draw_call(width, height, numbers))
        if answers[1] == [0, 0]:
            return False
        looks = answers[2][2:]
        self.assertEqual(run(call(OPEN, form), call(COULD, looks, [], numbers))[1], [0, 1])
        self.assertIsNotNone(reckoned(plan, self.rows_of(plan, told, width, height), told))
        self.assertEqual(looks, scan(*self.rows_of(plan, told, width, height)))
        return True

    def rows_of(self, plan, told, width, height):
        """The points as the document tells them, each on its own."""
        points = {}
        for box, one, wrong in letters_of(plan, told):
            for j, signs in enumerate(one[3]):
                for i, sign in enumerate(signs):
                    points.setdefault((box[0] + i, box[2] + j), sign)
        return ["".join(points.get((x, y), ".") for x in range(width)) for y in range(height)]

    def test_drawn_pages(self):
        stood = 0
        for seed in range(1200):
            draw = random.Random(seed)
            plan = draw.choice((Plan, FewPlan))(draw)
            width, height = draw.randint(1, 9), draw.randint(1, 7)
            pose, bands = drawn_page(draw, plan, width, height)
            stood += self.check(plan, (plan.upright, bands), width, height)
        self.assertGreater(stood, 50)

    def test_all_pages_of_small_sheets(self):
        stood = 0
        for seed in range(300):
            draw = random.Random(seed)
            plan = FewPlan(draw)
            plan.upright = 0
            width, height = draw.choice(SIZES)
            pages = list(itertools.islice(all_pages(plan, width, height), 400))
            for told in draw.sample(pages, min(12, len(pages))):
                stood += self.check(plan, told, width, height)
        self.assertGreater(stood, 800)

    def test_any_page_is_drawn_as_told(self):
        """Pages that couldn't be, too: past the sheet, and letters on one another."""
        for seed in range(400):
            draw = random.Random(seed)
            plan = Plan(draw)
            told = drawn_page(draw, plan, 9, 7)
            told = (told[0], told[1] + drawn_page(draw, plan, 9, 7)[1])
            width, height = draw.randint(1, 9), draw.randint(1, 7)
            looks = scan(*self.rows_of(plan, told, width, height))
            answer = run(call(OPEN, plan.form()), draw_call(width, height, numbers_of(told)))[1]
            self.assertEqual(answer, [0, len(looks)] + looks, seed)

    def test_strict_budgets_and_blanks(self):
        """With no slack and no budget: a drawn point that's not as it must be would be seen."""
        told = one_line(8, 2, letter(0, 1, 0), letter(0, 3, 1), letter(0, 5, 3), pose=1)
        looks = drawn(SHOP, 8, 2, told)[2:]
        self.assertEqual(could(SHOP, looks, told), [0, 1])
        for place in range(12, len(looks)):
            changed = looks[:place] + [looks[place] ^ 64] + looks[place + 1:]
            answer = could(SHOP, changed, told)
            self.assertTrue(answer == [0, 0] or answer[0] == -5 or looks[place] >= 128, (place, answer))


if __name__ == "__main__":
    unittest.main()
