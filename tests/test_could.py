"""could and cost: pages that could be and those that couldn't, for each rule of the shop."""

import itertools
import unittest

from tests.helper import (
    ANY, COST, COULD, OPEN, band, call, column, could, cost, face, glyph, kind, letter, level, line, one_line,
    page, run, scan, shop)

FREE = face(1, glyph(1, "?"))


class Asked(unittest.TestCase):
    def is_told(self, expected, shop_row, scan_row, page_row, said=()):
        """Expected is the cost, or None if it couldn't be."""
        cannot = expected is None
        self.assertEqual(could(shop_row, scan_row, page_row, said), [0, 0 if cannot else 1])
        self.assertEqual(cost(shop_row, scan_row, page_row, said), [-2] if cannot else [0, expected])


class ByHand(Asked):
    """A page of all levels, with a cost that's reckoned by hand."""

    def setUp(self):
        faces = [
            face(2, glyph(1, "##", "##", budget=1, cost=100), glyph(2, "#", ".", cost=200), wrong=10),
            face(1, glyph(1, "#", cost=300), wrong=7)]
        first = kind(
            500, 2,
            level((0, 3, 0, 2), ((1, 3, 1, 3, 4),), (0, 9, 2, 1)),
            level((0, 1, 0, 4), ((0, 2, 1, 5, 2), (1, 4, 3, 6, 3)), (0, 9, 3, 1)),
            level((0, 2, 2, 7), ((0, 0, 0, 0, 0), (1, 2, 0, 8, 1)), (0, 4, 1, 9)),
            ((0, 2000), (1, 3000)))
        second = kind(700, faces=((1, 1),))
        bands = level((0, 2, 0, 3), ((0, 4, 5, 2, 5),), (0, 2, 3, 5))
        self.shop = shop(faces, [first, second], bands, upright=2, pose_cost=1000)
        self.rows = [
            "..........",
            ".##.#.....",
            ".#.....##.",
            ".......##.",
            "..#.......",
            ".........."]
        self.left = column(
            0, 1, 5,
            line(0, 1, 0, letter(0, 1, 0), letter(1, 4, 1)),
            line(1, 4, 1, letter(0, 2, 0)))
        self.right = column(0, 7, 10, line(0, 2, 0, letter(0, 7, 0)))
        page_blanks = 3 * 1 + 5 * 2
        column_blanks = 2 * 1 + 3 * 1 + 1 * 2
        left_blanks = 0 + 6 * 2 + 1 * 3
        left_first_line = 2000 + (7 * 2 + 8 * 1 + 9 * 1) + (100 + 10 * 1) + 200
        left_second_line = 3000 + (7 * 1 + 9 * 1) + 300
        right_blanks = 4 * 1 + 1 * 2
        right_line = 2000 + (7 * 2 + 9 * 0) + 100
        self.band_cost = (
            500 + column_blanks + left_blanks + left_first_line + left_second_line + right_blanks + right_line)
        self.cost = page_blanks + self.band_cost

    def test_one_band(self):
        told = page(2, band(0, 1, 5, 0, self.left, self.right))
        self.is_told(self.cost, self.shop, scan(*self.rows), told)
        self.assertEqual(self.cost, 8312)

    def test_another_kind_of_gap_costs_otherwise(self):
        left = column(
            0, 1, 5,
            line(0, 1, 0, letter(0, 1, 0), letter(1, 4, 1)),
            line(0, 4, 1, letter(0, 2, 0)))
        told = page(2, band(0, 1, 5, 0, left, self.right))
        self.is_told(self.cost - 6 * 2 + 5 * 0, self.shop, scan(*self.rows), told)

    def test_a_second_band_of_a_second_kind(self):
        rows = self.rows + ["#........."]
        told = page(
            2, band(0, 1, 5, 0, self.left, self.right),
            band(0, 6, 7, 1, column(0, 0, 10, line(0, 6, 1, letter(0, 0, 0)))))
        # The trail is 0 now, where 3 is natural; the gap 1, where 5 is.
        expected = 3 * 1 + 2 * 4 + 5 * 3 + self.band_cost + 700 + 1 + 300
        self.is_told(expected, self.shop, scan(*rows), told)

    def test_another_pose(self):
        # All unclear, a scan is the same in every pose.
        rows = ["?" * 10] * 6
        no_wrong = self.cost - 10
        for pose, steps in ((0, 2), (1, 1), (2, 0), (3, 1), (4, 2)):
            told = page(pose, band(0, 1, 5, 0, self.left, self.right))
            self.is_told(no_wrong + 1000 * steps, self.shop, scan(*rows), told)
        told = page(5, band(0, 1, 5, 0, self.left, self.right))
        self.is_told(None, self.shop, scan(*rows), told)

    def test_a_number_that_is_changed_says_another_page(self):
        """Promise 2: no number of the page can be changed and leave page and cost as they are."""
        told = page(2, band(0, 1, 5, 0, self.left, self.right))
        for place, number in enumerate(told):
            for other in {number + 1, number - 1, 0, 1, 2, 2 ** 32 - 1} - {number, -1}:
                changed = told[:place] + [other] + told[place + 1:]
                answer = cost(self.shop, scan(*self.rows), changed)
                self.assertNotEqual(answer, [0, self.cost], (place, other))


def laid(which, sizes, rules=None, gap=0, first_gap=0):
    """A shop and a page with two items of one point along that level, between blanks of those sizes."""
    lead, between, trail = sizes
    first, second = lead, lead + 1 + between
    rule = level() if rules is None else rules
    total = max(second + 1 + trail, 1)
    items = ((first_gap, first), (gap, second))
    wide = which in ("columns", "letters")
    width, height = (total, 1) if wide else (1, total)

    def lines(start):
        return [line(0, start, 0, letter(0, 0, 0))]

    if which == "bands":
        bands = [band(g, at, at + 1, 0, column(0, 0, 1, *lines(at))) for g, at in items]
        return shop([FREE], bands=rule), scan(*["?" * width] * height), page(0, *bands)
    if which == "columns":
        columns = [column(g, at, at + 1, line(0, 0, 0, letter(0, at, 0))) for g, at in items]
        shop_row = shop([FREE], [kind(columns=rule)])
    elif which == "lines":
        columns = [column(0, 0, 1, *[line(g, at, 0, letter(0, 0, 0)) for g, at in items])]
        shop_row = shop([FREE], [kind(lines=rule)])
    else:
        columns = [column(0, 0, width, line(0, 0, 0, *[letter(g, at, 0) for g, at in items]))]
        shop_row = shop([FREE], [kind(letters=rule)])
    return shop_row, scan(*["?" * width] * height), page(0, band(0, 0, height, 0, *columns))


LEVELS = ("bands", "columns", "lines", "letters")


class Rooms(Asked):
    """Lead, gap and trail along each level."""

    def test_sizes_within_their_rules_and_what_they_cost(self):
        rules = level((1, 3, 2, 2), ((1, 2, 1, 3, 0), (2, 4, 0, 7, 0)), (0, 1, 3, 5))
        for which in LEVELS:
            for lead, between, trail, gap in itertools.product(range(5), range(6), range(3), range(2)):
                within = 1 <= lead <= 3 and trail <= 1 and (1 <= between <= 2 if gap == 0 else 2 <= between <= 4)
                gap_cost = 3 * abs(between - 1) if gap == 0 else 7 * between
                expected = 2 * abs(lead - 2) + gap_cost + 5 * abs(trail - 3) if within else None
                shop_row, scan_row, page_row = laid(which, (lead, between, trail), rules, gap)
                self.is_told(expected, shop_row, scan_row, page_row)

    def test_items_that_overlap_or_pass_one_another(self):
        for which in LEVELS:
            for between in (-1, -2, -3):
                shop_row, scan_row, page_row = laid(which, (3, between, 3))
                self.is_told(None, shop_row, scan_row, page_row)

    def test_items_past_the_scan(self):
        for which in LEVELS:
            shop_row, scan_row, page_row = laid(which, (0, 0, -1))
            self.is_told(None, shop_row, scan_row, page_row)

    def test_a_gap_that_the_level_has_not(self):
        for which in LEVELS:
            for gap in (1, 2, 2 ** 32 - 1):
                shop_row, scan_row, page_row = laid(which, (0, 0, 0), gap=gap)
                self.is_told(None, shop_row, scan_row, page_row)
            shop_row, scan_row, page_row = laid(which, (0, 0, 0), level(gaps=()))
            self.is_told(None, shop_row, scan_row, page_row)

    def test_a_first_item_whose_gap_is_not_0(self):
        two = level(gaps=((0, 9, 0, 0, 0), (0, 9, 0, 0, 0)))
        for which in LEVELS:
            for gap, expected in ((0, 0), (1, None), (2, None), (2 ** 32 - 1, None)):
                shop_row, scan_row, page_row = laid(which, (0, 0, 0), two, first_gap=gap)
                self.is_told(expected, shop_row, scan_row, page_row)

    def test_a_level_of_one_item_needs_no_gap(self):
        none = level(ANY, (), ANY)
        strict = shop([FREE], [kind(columns=none, lines=none, letters=none)], none)
        self.is_told(0, strict, scan("?"), one_line(1, 1, letter(0, 0, 0)))

    def test_lead_and_trail_around_one_item(self):
        rule = level((1, 1, 4, 1), (), (2, 2, 9, 10))
        for which, rows in (("columns", 1), ("letters", 1)):
            shop_row = shop([FREE], [kind(**{which: rule})])
            for at in range(4):
                inner = letter(0, at, 0)
                columns = {
                    "columns": column(0, at, at + 1, line(0, 0, 0, inner)),
                    "letters": column(0, 0, 4, line(0, 0, 0, inner))}
                told = page(0, band(0, 0, rows, 0, columns[which]))
                self.is_told(73 if at == 1 else None, shop_row, scan("????"), told)


class Items(Asked):
    """What an item must be."""

    def test_no_item(self):
        row = shop([FREE])
        for told in (
                page(0),
                page(0, band(0, 0, 1, 0)),
                page(0, band(0, 0, 1, 0, column(0, 0, 1))),
                page(0, band(0, 0, 1, 0, column(0, 0, 1, line(0, 0, 0))))):
            self.is_told(None, row, scan("?"), told)
        self.is_told(0, row, scan("?"), one_line(1, 1, letter(0, 0, 0)))

    def test_no_item_beside_others(self):
        row = shop([FREE])
        full = column(0, 0, 1, line(0, 0, 0, letter(0, 0, 0)))
        self.is_told(None, row, scan("??"), page(0, band(0, 0, 1, 0, full, column(0, 1, 2))))
        self.is_told(None, row, scan("?", "?"), page(0, band(0, 0, 1, 0, full), band(0, 1, 2, 0)))
        lines = column(0, 0, 1, line(0, 0, 0, letter(0, 0, 0)), line(0, 1, 0))
        self.is_told(None, row, scan("?", "?"), page(0, band(0, 0, 2, 0, lines)))

    def test_a_band_or_column_without_a_point(self):
        row = shop([FREE])
        inner = line(0, 0, 0, letter(0, 0, 0))
        for first, end in ((0, 0), (1, 1), (1, 0), (2 ** 32 - 1, 0)):
            self.is_told(None, row, scan("?"), page(0, band(0, first, end, 0, column(0, 0, 1, inner))))
            self.is_told(None, row, scan("?"), page(0, band(0, 0, 1, 0, column(0, first, end, inner))))

    def test_a_line_or_letter_past_what_it_lies_in(self):
        two = face(2, glyph(1, "??", "??"))
        row = shop([two])
        self.is_told(0, row, scan("????", "????", "????"), one_line(4, 3, letter(0, 2, 0), row=1))
        self.is_told(None, row, scan("????", "????", "????"), one_line(4, 3, letter(0, 3, 0), row=1))
        self.is_told(None, row, scan("????", "????", "????"), one_line(4, 3, letter(0, 2, 0), row=2))
        # On the scan, but past its column, its band.
        inner = line(0, 0, 0, letter(0, 1, 0))
        self.is_told(None, row, scan("????", "????"), page(0, band(0, 0, 2, 0, column(0, 0, 2, inner))))
        self.is_told(0, row, scan("????", "????"), page(0, band(0, 0, 2, 0, column(0, 0, 3, inner))))
        self.is_told(None, row, scan("????", "????"), page(0, band(0, 0, 1, 0, column(0, 0, 4, inner))))
        outside = line(0, 0, 0, letter(0, 0, 0))
        self.is_told(None, row, scan("????", "????"), page(0, band(0, 0, 2, 0, column(0, 1, 4, outside))))
        self.is_told(None, row, scan("????"), one_line(4, 1, letter(0, 0, 0)))

    def test_huge_numbers(self):
        row = shop([FREE])
        huge = 2 ** 32 - 1
        inner = line(0, 0, 0, letter(0, 0, 0))
        for told in (
                page(0, band(0, 0, huge, 0, column(0, 0, 1, inner))),
                page(0, band(0, huge - 1, huge, 0, column(0, 0, 1, inner))),
                page(0, band(0, 0, 1, 0, column(0, 0, huge, inner))),
                page(0, band(0, 0, 1, 0, column(0, 8192, huge, inner))),
                one_line(1, 1, letter(0, huge, 0)),
                one_line(1, 1, letter(0, 0, 0), row=huge),
                one_line(1, 1, letter(0, 0, 0), pose=huge)):
            self.is_told(None, row, scan("?"), told)

    def test_a_columns_least_width(self):
        for least, width, expected in ((3, 2, None), (3, 3, 0), (3, 4, 0), (1, 1, 0), (8192, 5, None)):
            row = shop([FREE], [kind(least=least)])
            inner = line(0, 0, 0, letter(0, 0, 0))
            self.is_told(expected, row, scan("?????"), page(0, band(0, 0, 1, 0, column(0, 0, width, inner))))

    def test_each_column_has_the_least_width(self):
        row = shop([FREE], [kind(least=2)])
        for middle, end, expected in ((2, 4, 0), (1, 4, None), (3, 4, None)):
            columns = [
                column(0, 0, middle, line(0, 0, 0, letter(0, 0, 0))),
                column(0, middle, end, line(0, 0, 0, letter(0, middle, 0)))]
            self.is_told(expected, row, scan("????"), page(0, band(0, 0, 1, 0, *columns)))

    def test_a_face_that_the_kind_has_not(self):
        kinds = [kind(faces=((0, 3), (2, 5))), kind(faces=((1, 7),))]
        row = shop([FREE, FREE, FREE], kinds)
        for number, face_number, expected in (
                (0, 0, 3), (0, 1, None), (0, 2, 5), (1, 0, None), (1, 1, 7), (1, 2, None)):
            inner = line(0, 0, face_number, letter(0, 0, 0))
            self.is_told(expected, row, scan("?"), page(0, band(0, 0, 1, number, column(0, 0, 1, inner))))

    def test_each_band_is_of_its_own_kind(self):
        kinds = [kind(11), kind(
            1000, 2, level((1, 1, 0, 3), (), ANY), level((2, 2, 0, 4), (), ANY), level((1, 2, 0, 5), (), ANY))]
        row = shop([FREE], kinds)
        sheet = scan(*["????"] * 5)
        upper = band(0, 0, 1, 0, column(0, 0, 4, line(0, 0, 0, letter(0, 0, 0))))
        lower = [0, 1, 5]
        inner = column(0, 1, 4, line(0, 3, 0, letter(0, 3, 0)))
        expected = 11 + 1000 + 3 * 1 + 4 * 2 + 5 * 2
        self.is_told(expected, row, sheet, page(0, upper, band(*lower, 1, inner)))
        self.is_told(22, row, sheet, page(0, upper, band(*lower, 0, inner)))
        self.is_told(None, row, sheet, page(0, band(0, 0, 1, 1, column(0, 0, 4, line(0, 0, 0, letter(0, 0, 0))))))


# Each sign a blank of its own, "A" letters.
PARTS = (
    "aaaaaaaaaa",
    "beeeeecmmd",
    "bhAiAjcmmd",
    "bfffffcAnd",
    "bkkAllcood",
    "bgggggcood",
    "pppppppppp",
    "qqqqArrrrr",
    "ssssssssss")
PARTED = page(
    0,
    band(
        0, 1, 6, 0,
        column(
            0, 1, 6,
            line(0, 2, 0, letter(0, 2, 0), letter(0, 4, 0)),
            line(0, 4, 0, letter(0, 3, 0))),
        column(0, 7, 9, line(0, 3, 0, letter(0, 7, 0)))),
    band(0, 7, 8, 0, column(0, 0, 10, line(0, 7, 0, letter(0, 4, 0)))))
POINTS = [(x, y) for y in range(9) for x in range(10)]


def specked(specks, ground="."):
    return scan(*["".join("#" if (x, y) in specks else ground for x in range(10)) for y in range(9)])


def could_each(shop_row, scans, page_row):
    """could of many scans, some at a time, as a list of calls is only so long."""
    told = []
    for begin in range(0, len(scans), 29):
        part = [call(COULD, one, [], page_row) for one in scans[begin:begin + 29]]
        told += run(call(OPEN, shop_row), *part)[1:]
    return told


class Blanks(Asked):
    """Where blanks lie, and how many specks they may have."""

    def test_a_speck_in_a_blank(self):
        expected = [[0, int(PARTS[y][x] == "A")] for x, y in POINTS]
        for ground in ".?":
            scans = [specked([point], ground) for point in POINTS]
            self.assertEqual(could_each(shop([FREE]), scans, PARTED), expected)

    def test_slack_is_of_each_blank(self):
        pairs = list(itertools.combinations(POINTS, 2))
        signs = [(PARTS[y][x], PARTS[v][u]) for (x, y), (u, v) in pairs]
        expected = [[0, int(one != other or one == "A")] for one, other in signs]
        told = could_each(shop([FREE], slack=1), [specked(pair) for pair in pairs], PARTED)
        self.assertEqual(told, expected)

    def test_density_is_of_each_blanks_points(self):
        """Each blank all ink but for some points of its own, at the very edge of the density."""
        for sign in sorted(set("".join(PARTS)) - {"A"}):
            own = [(x, y) for x, y in POINTS if PARTS[y][x] == sign]
            size = len(own)
            for ink in range(1, size + 1):
                # The least density with 65,536 * ink <= density * size.
                density = -(-65536 * ink // size)
                row = specked(own[:ink])
                self.assertEqual(could(shop([FREE], density=density), row, PARTED), [0, 1])
                self.assertEqual(could(shop([FREE], density=density - 1), row, PARTED), [0, 0])

    def test_density_and_slack_together(self):
        row = specked([(x, 0) for x in range(7)])
        for density, slack, expected in (
                (0, 7, 0), (0, 6, None), (32768, 2, 0), (32767, 2, None), (32767, 3, 0), (32768, 1, None),
                (65536, 0, 0), (6554, 6, 0), (6553, 6, None), (0, 65536, 0)):
            self.is_told(expected, shop([FREE], density=density, slack=slack), row, PARTED)

    def test_unclear_points_count_as_points(self):
        rows = ["#???#"]
        told = one_line(5, 1, letter(0, 0, 0))
        self.is_told(0, shop([FREE], density=16384), scan(*rows), told)
        self.is_told(None, shop([FREE], density=16383), scan(*rows), told)

    def test_a_blank_without_points(self):
        row = shop([face(1, glyph(1, "#"))])
        self.is_told(0, row, scan("##"), one_line(2, 1, letter(0, 0, 0), letter(0, 1, 0)))


class Letters(Asked):
    """Where a glyph fits, and what its wrong points cost."""

    def test_each_point(self):
        for need, point in itertools.product("#.?", "#.?"):
            wrong = (need, point) in (("#", "."), (".", "#"))
            strict = shop([face(1, glyph(1, need, cost=50), wrong=3)])
            loose = shop([face(1, glyph(1, need, budget=1, cost=50), wrong=3)])
            told = one_line(1, 1, letter(0, 0, 0))
            self.is_told(None if wrong else 50, strict, scan(point), told)
            self.is_told(53 if wrong else 50, loose, scan(point), told)

    def test_budget(self):
        for budget in range(5):
            row = shop([face(2, glyph(1, "##", "..", budget=budget, cost=1000), wrong=7)])
            for rows in itertools.product(("##", "#.", ".?", ".."), ("..", "?#", "##")):
                wrong = rows[0].count(".") + rows[1].count("#")
                expected = 1000 + 7 * wrong if wrong <= budget else None
                self.is_told(expected, row, scan(*rows), one_line(2, 2, letter(0, 0, 0)))

    def test_points_stand_by_column_and_row(self):
        rows = ("#..", ".#?", "??#")
        row = shop([face(3, glyph(1, *rows))])
        self.is_told(0, row, scan(*rows), one_line(3, 3, letter(0, 0, 0)))
        for x, y in itertools.product(range(3), range(3)):
            for other in "#.":
                changed = [list(one) for one in rows]
                changed[y][x] = other
                wrong = rows[y][x] not in ("?", other)
                sheet = scan(*["".join(one) for one in changed])
                self.is_told(None if wrong else 0, row, sheet, one_line(3, 3, letter(0, 0, 0)))

    def test_where_it_is_put(self):
        row = shop([face(2, glyph(1, "#.", ".#"))], slack=65536)
        sheet = scan("....", ".#..", "..#.", "....")
        for x, y in itertools.product(range(3), range(3)):
            told = one_line(4, 4, letter(0, x, 0), row=y)
            self.is_told(0 if (x, y) == (1, 1) else None, row, sheet, told)

    def test_wide_glyphs(self):
        signs = "#.?##..?#.#?.#"
        row = shop([face(1, glyph(1, signs))])
        self.is_told(0, row, scan(signs), one_line(14, 1, letter(0, 0, 0)))
        for x, sign in enumerate(signs):
            other = {"#": ".", ".": "#", "?": "#"}[sign]
            changed = signs[:x] + other + signs[x + 1:]
            self.is_told(0 if sign == "?" else None, row, scan(changed), one_line(14, 1, letter(0, 0, 0)))

    def test_which_glyph(self):
        glyphs = [glyph(1, "#", cost=1), glyph(1, ".", cost=2), glyph(1, "##", cost=4), glyph(5, "..", cost=8)]
        row = shop([face(1, *glyphs)])
        self.is_told(1 + 2 + 4 + 8, row, scan("#.##.."), one_line(
            6, 1, letter(0, 0, 0), letter(0, 1, 1), letter(0, 2, 2), letter(0, 4, 3)))
        self.is_told(None, row, scan("#.##.."), one_line(
            6, 1, letter(0, 0, 1), letter(0, 1, 0), letter(0, 2, 2), letter(0, 4, 3)))

    def test_the_faces_own_cost_of_a_wrong_point(self):
        faces = [face(1, glyph(1, "#", budget=1), wrong=3), face(1, glyph(1, "#", budget=1), wrong=500)]
        row = shop(faces, [kind(faces=((0, 0), (1, 0)))])
        self.is_told(3, row, scan("."), one_line(1, 1, letter(0, 0, 0)))
        self.is_told(500, row, scan("."), one_line(1, 1, letter(0, 0, 0), face_number=1))


class Unclear(Asked):
    """Promise 5: points made unclear take no page away and make none dearer."""

    def setUp(self):
        glyphs = [glyph(1, "#.", "##", budget=1, cost=2), glyph(2, ".", "#", budget=2, cost=1)]
        self.shop = shop([face(2, *glyphs, wrong=5)], slack=1, density=9000, upright=1, pose_cost=3)
        self.rows = (".#..#.", "..####", "...#.#", "......")
        self.pages = [
            one_line(6, 4, *letters, pose=pose, row=row)
            for pose in range(3) for row in range(3) for letters in (
                [letter(0, 1, 0)], [letter(0, 2, 1), letter(0, 4, 0)], [letter(0, 1, 0), letter(0, 3, 1)],
                [letter(0, 3, 0), letter(0, 5, 1)], [letter(0, 3, 1), letter(0, 4, 0)])]

    def costs(self, rows):
        told = []
        for begin in range(0, len(self.pages), 29):
            part = [call(COST, scan(*rows), [], one) for one in self.pages[begin:begin + 29]]
            told += run(call(OPEN, self.shop), *part)[1:]
        return told

    def test_points_made_unclear(self):
        known = self.costs(self.rows)
        self.assertTrue(any(one[0] == 0 for one in known))
        self.assertTrue(any(one[0] == -2 for one in known))
        for size in (1, 2):
            for chosen in itertools.combinations(range(24), size):
                rows = "".join("?" if k in chosen else sign for k, sign in enumerate("".join(self.rows)))
                now = self.costs([rows[k:k + 6] for k in range(0, 24, 6)])
                for before, after in zip(known, now):
                    if before[0] == 0:
                        self.assertEqual(after[0], 0)
                        self.assertLessEqual(after[1], before[1])

    def test_all_unclear(self):
        now = self.costs(["??????"] * 4)
        for before, after in zip(self.costs(self.rows), now):
            self.assertEqual(after[0], 0)
            if before[0] == 0:
                self.assertLessEqual(after[1], before[1])

    def test_a_point_made_unclear_saves_what_it_cost(self):
        row = shop([face(1, glyph(1, "#.", budget=2, cost=4), wrong=5)])
        told = one_line(2, 1, letter(0, 0, 0))
        for rows, expected in ((".#", 14), ("?#", 9), (".?", 9), ("??", 4)):
            self.is_told(expected, row, scan(rows), told)


if __name__ == "__main__":
    unittest.main()
