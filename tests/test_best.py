"""best by hand: the least of all pages that could be, and the first of the least."""

import itertools
import unittest

from tests.helper import (
    ANY, BEST, COST, COULD, NONE, OPEN, band, best, best_told, call, column, face, glyph, kind, letter, level, line,
    one_line, page, run, scan, shop)

STANDS, NOT, BARE = 0, 1, 2
FREE = face(1, glyph(1, "?"))
FULL = level(NONE, ((0, 0, 0, 0, 0),), NONE)
ONE = level(NONE, (), NONE)


def first_page(pose=0, kind_number=0, face_number=0, x=0, y=0, glyph_number=0):
    """One letter of one point, in a column and a band that have no more."""
    inner = line(0, y, face_number, letter(0, x, glyph_number))
    return page(pose, band(0, y, y + 1, kind_number, column(0, x, x + 1, inner)))


def only_kind(**named):
    """A kind with one column and one line, over all of it, unless it's told otherwise."""
    rules = {"columns": ONE, "lines": ONE, "letters": ONE}
    return kind(**{**rules, **named})


class Best(unittest.TestCase):
    def told(self, shop_row, rows, expected_cost, expected_page, said=()):
        row = scan(*rows)
        self.assertEqual(best(shop_row, row, said), best_told(expected_cost, expected_page))
        could = run(call(OPEN, shop_row), call(COULD, row, said, expected_page), call(COST, row, said, expected_page))
        self.assertEqual(could, [[0], [0, 1], [0, expected_cost]])

    def none(self, shop_row, rows, said=()):
        self.assertEqual(best(shop_row, scan(*rows), said), [-2])


class First(Best):
    """Of those that cost the same the first by their numbers."""

    def test_where_everything_may_be(self):
        for width, height in ((1, 1), (2, 1), (8, 1), (1, 5), (8, 5)):
            self.told(shop([FREE]), ["?" * width] * height, 0, first_page())

    def test_all_its_numbers(self):
        answer = best(shop([FREE]), scan("???", "???"))
        self.assertEqual(answer, [0, 0, 22, 0, 1, 0, 0, 1, 0, 1, 0, 0, 1, 1, 0, 0, 0, 1, 0, 0, 0, 0, 0, 0, 0])

    def test_poses(self):
        self.told(shop([FREE], upright=1), ["??"], 0, first_page(pose=0))
        self.told(shop([FREE], upright=1, pose_cost=1), ["??"], 0, first_page(pose=1))
        self.told(shop([FREE], upright=0, pose_cost=1), ["??"], 0, first_page(pose=0))

    def test_kinds(self):
        self.told(shop([FREE], [kind(), kind()]), ["?"], 0, first_page(kind_number=0))
        self.told(shop([FREE], [kind(1), kind(1)]), ["?"], 1, first_page(kind_number=0))
        self.told(shop([FREE], [kind(2), kind(1)]), ["?"], 1, first_page(kind_number=1))
        self.told(shop([FREE], [kind(least=2), kind(4095)]), ["?"], 4095, first_page(kind_number=1))

    def test_faces(self):
        for costs, expected in (((0, 0), 0), ((5, 5), 0), ((5, 4), 1), ((4, 5), 0)):
            row = shop([FREE, FREE], [kind(faces=((0, costs[0]), (1, costs[1])))])
            self.told(row, ["?"], min(costs), first_page(face_number=expected))
        self.told(shop([FREE, FREE], [kind(faces=((1, 7),))]), ["?"], 7, first_page(face_number=1))

    def test_glyphs_that_look_alike(self):
        same = face(1, glyph(1, "#"), glyph(2, "#"), glyph(3, "#"))
        self.told(shop([same]), ["#"], 0, first_page(glyph_number=0))
        dearer = face(1, glyph(1, "#", cost=2), glyph(2, "#", cost=1), glyph(3, "#", cost=1))
        self.told(shop([dearer]), ["#"], 1, first_page(glyph_number=1))

    def test_a_glyphs_cost_and_its_wrong_points(self):
        """Glyph 1 has a wrong point for 3; glyph 0 has none, and costs what's told."""
        for cost, expected in ((2, 0), (3, 0), (4, 1)):
            row = shop([face(1, glyph(1, "#", cost=cost), glyph(2, ".", budget=1), wrong=3)])
            self.told(row, ["#"], min(cost, 3), first_page(glyph_number=expected))
            row = shop([face(1, glyph(1, ".", budget=1), glyph(2, "#", cost=cost), wrong=3)])
            self.told(row, ["#"], min(cost, 3), first_page(glyph_number=0 if cost >= 3 else 1))

    def test_a_letter_more_that_costs_nothing(self):
        """The 0 that ends a row is less than the 1 of another item; but an earlier first is less still."""
        row = shop([FREE], [only_kind(letters=level(ANY, ((0, 9, 0, 0, 0),), ANY))], ONE)
        self.told(row, ["????"], 0, one_line(4, 1, letter(0, 0, 0)))
        row = shop([FREE], [only_kind(letters=level(ANY, ((1, 1, 0, 0, 0),), (0, 0, 0, 0)))], ONE)
        self.told(row, ["???"], 0, one_line(3, 1, letter(0, 0, 0), letter(0, 2, 0)))
        self.told(row, ["????"], 0, one_line(4, 1, letter(0, 1, 0), letter(0, 3, 0)))

    def test_a_gaps_kind(self):
        ends = NONE
        for gaps, expected_cost, expected in (
                (((2, 2, 2, 1, 0), (2, 2, 2, 1, 1)), 0, 0),
                (((2, 2, 1, 1, 0), (2, 2, 2, 1, 1)), 0, 1),
                (((2, 2, 1, 1, 0), (2, 2, 3, 1, 1)), 1, 0),
                (((2, 2, 0, 15, 0), (0, 8192, 9, 2, 1), (2, 3, 4, 7, 0)), 14, 1),
                (((0, 1, 2, 0, 0), (3, 3, 2, 0, 0), (1, 2, 9, 5, 0)), 35, 2)):
            rule = level(ends, gaps, ends)
            # So wide that one letter alone can't be, nor more than two.
            wide = face(1, glyph(1, "???"))
            row = shop([wide], [only_kind(letters=rule)], ONE)
            told = one_line(8, 1, letter(0, 0, 0), letter(expected, 5, 0))
            self.told(row, ["????????"], expected_cost, told)

    def test_a_gaps_kind_comes_ahead_of_where_the_item_is(self):
        """Gap 0 to a later letter is less by its numbers than gap 1 to an earlier one."""
        rule = level(NONE, ((2, 2, 0, 0, 0), (1, 1, 0, 0, 0)), (0, 8, 0, 0))
        row = shop([face(1, glyph(1, "?"))], [only_kind(letters=rule)], ONE)
        said = [STANDS, 0, 1, 0, 1, 1, NOT, 4, 5, 0, 1, 1, BARE, 5, 8, 0, 1, 0]
        # Of one letter alone the row ends first.
        self.told(row, ["????????"], 0, one_line(8, 1, letter(0, 0, 0)), said)
        short = level(NONE, ((2, 2, 0, 0, 0), (1, 1, 0, 0, 0)), (0, 6, 0, 0))
        row = shop([face(1, glyph(1, "?"))], [only_kind(letters=short)], ONE)
        self.told(row, ["????????"], 0, one_line(8, 1, letter(0, 0, 0), letter(0, 3, 0)), said)

    def test_a_glyphs_number_comes_ahead_of_its_width(self):
        """Glyphs are ordered by letter: a wide one may be less by its number than a narrow one."""
        glyphs = face(1, glyph(1, "??"), glyph(2, "?"))
        row = shop([glyphs], [only_kind(letters=level())], ONE)
        self.told(row, ["???"], 0, one_line(3, 1, letter(0, 0, 0)))
        # Too long a trail for one letter alone.
        row = shop([glyphs], [only_kind(letters=level(trail=(0, 3, 0, 0)))], ONE)
        self.told(row, ["?????"], 0, one_line(5, 1, letter(0, 0, 1), letter(0, 1, 0)), [STANDS, 0, 1, 0, 1, 2])

    def test_a_faces_number_comes_ahead_of_its_height(self):
        high = face(2, glyph(1, "?", "?"))
        faces = ((0, 0), (1, 0))
        row = shop([high, FREE], [only_kind(lines=level(), faces=faces)], ONE)
        self.told(row, ["?"] * 3, 0, one_line(1, 3, letter(0, 0, 0)))
        lines = [line(0, 0, 1, letter(0, 0, 0)), line(0, 1, 0, letter(0, 0, 0))]
        row = shop([high, FREE], [only_kind(lines=level(trail=(0, 2, 0, 0)), faces=faces)], ONE)
        told = page(0, band(0, 0, 4, 0, column(0, 0, 1, *lines)))
        self.told(row, ["?"] * 4, 0, told, [STANDS, 0, 1, 0, 1, 1])

    def test_an_earlier_cheaper_part_does_not_mislead(self):
        """Two letters of one point, or one of two, where only the whole tells which is less."""
        for pair, expected_cost, told in (
                (5, 4, one_line(2, 1, letter(0, 0, 0), letter(0, 1, 0))),
                (4, 4, one_line(2, 1, letter(0, 0, 0), letter(0, 1, 0))),
                (3, 3, one_line(2, 1, letter(0, 0, 1)))):
            row = shop([face(1, glyph(1, "?", cost=2), glyph(2, "??", cost=pair))], [only_kind(letters=FULL)], ONE)
            self.told(row, ["??"], expected_cost, told)


class Least(Best):
    """What is looked for at each level."""

    def test_lead_and_trail_at_each_level(self):
        """One item that's drawn to where the blanks cost least."""
        rule = level((0, 8192, 2, 3), (), (0, 8192, 1, 2))
        row = shop([FREE], [only_kind(letters=rule)], ONE)
        # At 0 it's 6 + 4, at 1 it's 3 + 2, at 2 nothing, at 3 it's 3 + 2.
        self.told(row, ["????"], 0, one_line(4, 1, letter(0, 2, 0)))
        row = shop([FREE], [only_kind(columns=rule)], ONE)
        self.told(row, ["????"], 0, page(0, band(0, 0, 1, 0, column(0, 2, 3, line(0, 0, 0, letter(0, 2, 0))))))
        row = shop([FREE], [only_kind(lines=rule)], ONE)
        self.told(row, ["?"] * 4, 0, page(0, band(0, 0, 4, 0, column(0, 0, 1, line(0, 2, 0, letter(0, 0, 0))))))
        row = shop([FREE], [only_kind()], rule)
        self.told(row, ["?"] * 4, 0, page(0, band(0, 2, 3, 0, column(0, 0, 1, line(0, 2, 0, letter(0, 0, 0))))))

    def test_several_items_at_each_level(self):
        rule = level(NONE, ((1, 1, 0, 4, 0),), NONE)
        letters = [letter(0, 0, 0), letter(0, 2, 0), letter(0, 4, 0)]
        self.told(shop([FREE], [only_kind(letters=rule)], ONE), ["?????"], 8, one_line(5, 1, *letters))
        columns = [column(0, x, x + 1, line(0, 0, 0, letter(0, x, 0))) for x in (0, 2, 4)]
        self.told(shop([FREE], [only_kind(columns=rule)], ONE), ["?????"], 8, page(0, band(0, 0, 1, 0, *columns)))
        lines = [line(0, y, 0, letter(0, 0, 0)) for y in (0, 2, 4)]
        told = page(0, band(0, 0, 5, 0, column(0, 0, 1, *lines)))
        self.told(shop([FREE], [only_kind(lines=rule)], ONE), ["?"] * 5, 8, told)
        bands = [band(0, y, y + 1, 0, column(0, 0, 1, line(0, y, 0, letter(0, 0, 0)))) for y in (0, 2, 4)]
        self.told(shop([FREE], [only_kind()], rule), ["?"] * 5, 8, page(0, *bands))

    def test_a_page_of_all_levels(self):
        """What's printed is found again: two bands, two columns, lines and letters."""
        faces = [face(1, glyph(1, "#", cost=1), glyph(2, "#.#", cost=1))]
        wide = kind(
            1, 3, level(NONE, ((1, 1, 1, 1, 4),), NONE), level(NONE, ((1, 1, 1, 1, 2),), NONE),
            level(ANY, ((1, 1, 1, 1, 1),), ANY))
        row = shop(faces, [wide], level(NONE, ((1, 1, 1, 1, 5),), NONE))
        rows = ["#.#.##..", "........", "#...###.", "........", "#......#"]
        self.none(row, rows)
        rows = ["#.#..#.#", "........", "#....#.#", "........", "#......#"]
        # Three lines in each of two columns; #.# by one glyph for 1, not by two for 2.
        left = column(0, 0, 3, line(0, 0, 0, letter(0, 0, 1)), line(0, 2, 0, letter(0, 0, 0)), line(
            0, 4, 0, letter(0, 0, 0)))
        right = column(0, 4, 8, line(0, 0, 0, letter(0, 5, 1)), line(0, 2, 0, letter(0, 5, 1)), line(
            0, 4, 0, letter(0, 7, 0)))
        self.told(row, rows, 7, page(0, band(0, 0, 5, 0, left, right)))

    def test_blanks_that_are_not_blank(self):
        row = shop([face(1, glyph(1, "#"))], slack=0)
        inner = line(0, 1, 0, letter(0, 1, 0))
        self.told(row, ["...", ".#.", "..."], 0, page(0, band(0, 0, 2, 0, column(0, 0, 2, inner))))
        self.none(row, ["...", "...", "..."])
        # Where specks may be, not each of them has to be a letter.
        self.told(row, ["#.#"], 0, page(0, band(0, 0, 1, 0, column(0, 0, 1, line(0, 0, 0, letter(0, 0, 0))), column(
            0, 1, 3, line(0, 0, 0, letter(0, 2, 0))))))
        self.told(shop([face(1, glyph(1, "#"))], slack=1), ["#.#"], 0, first_page())
        self.told(shop([face(1, glyph(1, "#"))], density=32768), ["#.#"], 0, first_page())
        self.none(shop([face(1, glyph(1, "#"))], [only_kind()], ONE, density=32767), ["#.#"])

    def test_budget(self):
        for budget, expected in ((0, None), (1, None), (2, 20), (3, 20)):
            row = shop([face(2, glyph(1, "##", "..", budget=budget), wrong=10)], [only_kind()], ONE)
            if expected is None:
                self.none(row, ["#.", ".#"])
            else:
                self.told(row, ["#.", ".#"], expected, one_line(2, 2, letter(0, 0, 0)))

    def test_least_width(self):
        for least in range(1, 5):
            inner = column(0, 0, least, line(0, 0, 0, letter(0, 0, 0)))
            self.told(shop([FREE], [kind(least=least)]), ["????"], 0, page(0, band(0, 0, 1, 0, inner)))
        self.none(shop([FREE], [kind(least=5)]), ["????"])

    def test_a_face_that_is_too_high_or_a_glyph_too_wide(self):
        self.none(shop([face(3, glyph(1, "?", "?", "?"))]), ["??", "??"])
        self.none(shop([face(1, glyph(1, "???"))]), ["??", "??"])
        self.none(shop([face(64, glyph(1, *["?" * 64] * 64))]), ["????????"] * 5)
        self.told(shop([face(2, glyph(1, "??", "??"))]), ["??", "??"], 0, one_line(2, 2, letter(0, 0, 0)))

    def test_no_glyph(self):
        self.none(shop([face(1)]), ["?"])

    def test_other_poses(self):
        """In pose s = 1 of two rows the upper goes one to the left, in s = -1 none does."""
        row = shop([face(2, glyph(1, "#", "#"))], [only_kind(letters=level(ANY, (), ANY))], ONE, upright=1, pose_cost=5)
        self.told(row, [".#.", "#.."], 5, one_line(3, 2, letter(0, 0, 0), pose=2))
        self.told(row, [".#.", ".#."], 0, one_line(3, 2, letter(0, 1, 0), pose=1))
        self.none(row, [".#...", "...#."])
        free = shop([face(2, glyph(1, "#", "#"))], [only_kind(letters=level(ANY, (), ANY))], ONE, upright=1)
        self.told(free, [".#.", ".#."], 0, one_line(3, 2, letter(0, 1, 0), pose=0))

    def test_the_dearest_numbers(self):
        far = (0, 0, 8192, 15)
        rule = level(far, ((0, 0, 8192, 15, 0),), far)
        row = shop([face(1, glyph(1, "#", budget=4096, cost=4095), wrong=4095)],
                   [kind(4095, 1, rule, rule, rule, ((0, 4095),))], rule)
        blanks = 2 * 4 * 8192 * 15
        self.told(row, ["."], blanks + 4 * 4095, one_line(1, 1, letter(0, 0, 0)))


class Told(Best):
    """What's said: promise 4."""

    def test_stands(self):
        row = shop([face(1, glyph(1, "?", cost=1), glyph(2, "?", cost=3), glyph(2, "??", cost=9))])
        self.told(row, ["???"], 3, first_page(glyph_number=1), [STANDS, 0, 1, 0, 1, 2])
        inner = line(0, 0, 0, letter(0, 1, 2))
        self.told(row, ["???"], 9, page(0, band(0, 0, 1, 0, column(0, 0, 3, inner))), [STANDS, 1, 3, 0, 1, 2])
        self.none(row, ["???"], [STANDS, 0, 3, 0, 1, 2])
        self.none(row, ["???"], [STANDS, 0, 2, 0, 1, 1])
        self.none(row, ["???"], [STANDS, 0, 1, 0, 1, 3])

    def test_several_stand(self):
        row = shop([face(1, glyph(1, "?", cost=1), glyph(1, "??"), glyph(2, "?", cost=1))])
        sheet = ["????", "????"]
        answer = best(row, scan(*sheet), [STANDS, 3, 4, 0, 1, 1, STANDS, 0, 1, 1, 2, 1])
        self.assertEqual(answer[:2], [0, 2])
        # The same twice is the same; two that meet can't both be.
        self.told(row, sheet, 1, first_page(), [STANDS, 0, 1, 0, 1, 1] * 2)
        self.none(row, sheet, [STANDS, 0, 1, 0, 1, 1, STANDS, 0, 1, 0, 1, 2])
        self.none(row, sheet, [STANDS, 0, 1, 0, 1, 2, STANDS, 0, 1, 0, 1, 1])
        self.none(row, sheet, [STANDS, 0, 1, 0, 1, 1, STANDS, 0, 2, 0, 1, 1])
        self.none(row, sheet, [STANDS, 0, 2, 0, 1, 1, STANDS, 1, 3, 0, 1, 1])

    def test_a_letter_in_every_point(self):
        row = shop([face(1, glyph(1, "?", cost=2))])
        said = []
        for x, y in itertools.product(range(8), range(5)):
            said += [STANDS, x, x + 1, y, y + 1, 1]
        answer = best(row, scan(*["????????"] * 5), said)
        self.assertEqual(answer[:2], [0, 80])
        told = run(call(OPEN, row), call(COST, scan(*["????????"] * 5), said, answer[3:]))
        self.assertEqual(told[1], [0, 80])

    def test_not(self):
        row = shop([face(1, glyph(1, "?"), glyph(2, "?"), glyph(2, "?", cost=1))])
        self.told(row, ["??"], 0, first_page(glyph_number=1), [NOT, 0, 1, 0, 1, 1])
        said = [NOT, 0, 1, 0, 1, 1, NOT, 0, 1, 0, 1, 2]
        inner = line(0, 0, 0, letter(0, 1, 0))
        self.told(row, ["??"], 0, page(0, band(0, 0, 1, 0, column(0, 0, 2, inner))), said)
        self.none(row, ["?"], said)
        self.told(row, ["?"], 0, first_page(), [NOT, 0, 1, 0, 1, 3])
        self.told(row, ["?"], 0, first_page(), [NOT, 0, 2, 0, 1, 1])

    def test_bare(self):
        row = shop([FREE])
        inner = line(0, 1, 0, letter(0, 1, 0))
        self.told(row, ["??", "??"], 0, page(0, band(0, 0, 2, 0, column(0, 0, 2, inner))), [
            BARE, 0, 2, 0, 1, 0, BARE, 0, 1, 0, 2, 0])
        self.none(row, ["??", "??"], [BARE, 0, 2, 0, 2, 0])
        wide = shop([face(1, glyph(1, "??"))])
        self.none(wide, ["???"], [BARE, 1, 2, 0, 1, 0])
        inner = line(0, 0, 0, letter(0, 1, 0))
        self.told(wide, ["???"], 0, page(0, band(0, 0, 1, 0, column(0, 0, 3, inner))), [BARE, 0, 1, 0, 1, 0])

    def test_past_the_scan(self):
        row = shop([FREE])
        for box in ((1, 2, 0, 1), (0, 1, 1, 2), (0, 2, 0, 1), (0, 1, 0, 2), (8191, 8192, 8191, 8192)):
            self.none(row, ["?"], [STANDS, *box, 1])
            self.told(row, ["?"], 0, first_page(), [NOT, *box, 1])
        for box in ((1, 2, 0, 1), (0, 1, 1, 2), (1, 8192, 0, 8192), (0, 8192, 1, 8192), (8191, 8192, 8191, 8192)):
            self.told(row, ["?"], 0, first_page(), [BARE, *box, 0])
        for box in ((0, 2, 0, 1), (0, 1, 0, 2), (0, 8192, 0, 8192)):
            self.none(row, ["?"], [BARE, *box, 0])

    def test_stands_and_bare_or_not(self):
        row = shop([face(1, glyph(1, "?"), glyph(1, "??"))])
        stands = [STANDS, 1, 2, 0, 1, 1]
        inner = line(0, 0, 0, letter(0, 1, 0))
        told = page(0, band(0, 0, 1, 0, column(0, 0, 2, inner)))
        self.told(row, ["???"], 0, told, stands + [BARE, 0, 1, 0, 1, 0, BARE, 2, 3, 0, 1, 0])
        self.none(row, ["???"], stands + [BARE, 0, 2, 0, 1, 0])
        self.none(row, ["???"], stands + [NOT, 1, 2, 0, 1, 1])
        self.told(row, ["???"], 0, told, stands + [BARE, 0, 1, 0, 1, 0, NOT, 1, 3, 0, 1, 1, NOT, 1, 2, 0, 1, 2])

    def test_a_blank_without_points_meets_no_box(self):
        """The gap between two letters lies where a box is said to be filled, but has no points."""
        row = shop([face(1, glyph(1, "??"), glyph(2, "?"))], [only_kind(letters=FULL)], ONE)
        self.told(row, ["???"], 0, one_line(3, 1, letter(0, 0, 1), letter(0, 1, 0)), [STANDS, 1, 3, 0, 1, 1])

    def test_of_the_posed_scan(self):
        row = shop([face(1, glyph(1, "#"))], upright=1, slack=0)
        # In s = 1 row 0 of two goes one to the left.
        inner = line(0, 0, 0, letter(0, 0, 0))
        self.none(row, [".#", ".#"], [STANDS, 0, 1, 0, 1, 1, BARE, 0, 2, 1, 2, 0])
        answer = best(row, scan(".#", ".."), [STANDS, 0, 1, 0, 1, 1])
        self.assertEqual(answer, best_told(0, page(2, band(0, 0, 1, 0, column(0, 0, 1, inner)))))

    def test_many_things_said(self):
        row = shop([FREE])
        said = []
        for k in range(2400):
            said += [BARE, 8 + k, 8192, k, 8192, 0, NOT, k % 8, k % 8 + 1, k % 5, k % 5 + 1, 2 + k]
        self.told(row, ["????????"] * 5, 0, first_page(), said[:13992])


class Asked(unittest.TestCase):
    """The refusals, and that every answer is one page."""

    def setUp(self):
        self.shop = shop([FREE])
        self.no_scan = [83, 72, 84, 50]

    def test_no_shop(self):
        good = call(BEST, scan("?"), [])
        told = run(good, call(BEST, self.no_scan, [1]), call(OPEN, self.shop), good)
        self.assertEqual(told, [[-9], [-9], [0], best_told(0, first_page())])

    def test_wrong_things_said_ahead_of_the_scans_faults(self):
        wrong = [
            [0], [0, 0, 1, 0, 1], [0, 0, 1, 0, 1, 1, 0], [3, 0, 1, 0, 1, 0], [2 ** 32 - 1, 0, 1, 0, 1, 0],
            [0, 1, 1, 0, 1, 0], [1, 0, 1, 1, 1, 0], [2, 2, 1, 0, 1, 0], [0, 0, 1, 0, 8193, 0], [0, 0, 8193, 0, 1, 0],
            [0, 0, 1, 0, 1, 4096], [1, 0, 1, 0, 1, 2 ** 32 - 1], [2, 0, 1, 0, 1, 1]]
        for said in wrong:
            for row in (scan("?"), self.no_scan, []):
                self.assertEqual(best(self.shop, row, said), [-1])

    def test_the_scans_faults_ahead_of_none(self):
        stands = [STANDS, 5, 6, 0, 1, 1]
        self.assertEqual(best(self.shop, scan("?"), stands), [-2])
        self.assertEqual(best(self.shop, self.no_scan, stands), [-5, 1, 3])
        self.assertEqual(best(self.shop, [], stands), [-5, 5, 0])
        self.assertEqual(best(self.shop, scan("?") + [0], stands), [-5, 7, 13])
        self.assertEqual(best(self.shop, scan("??")[:12] + [128, 128], stands), [-5, 6, 12])
        self.assertEqual(best(self.shop, scan("??")[:12] + [192], []), [-5, 3, 12])
        self.assertEqual(best(self.shop, scan("??")[:12] + [2], []), [-5, 4, 12])
        self.assertEqual(best(self.shop, scan("??")[:4] + [0] * 8, []), [-5, 2, 4])

    def test_a_refusal_changes_nothing(self):
        good = call(BEST, scan("?"), [])
        told = run(call(OPEN, self.shop), good, call(BEST, self.no_scan, []), good, call(BEST, scan("?"), [7]), good)
        self.assertEqual([told[k] for k in (1, 3, 5)], [best_told(0, first_page())] * 3)

    def test_the_largest_of_all(self):
        """Every rule open, the largest scan, eight kinds of gaps: as much to look through as there may be."""
        rule = level(gaps=[(0, 8192, k, k, 0) for k in range(8)])
        faces = [
            face(1, *[glyph(k, "?" * (k + 1), cost=k) for k in range(8)]),
            face(2, *[glyph(k, *["?" * (k + 1)] * 2, cost=k) for k in range(8)])]
        one = kind(columns=rule, lines=rule, letters=rule, faces=((0, 0), (1, 0)))
        row = shop(faces, [one, one], rule, slack=65536, upright=1)
        self.assertEqual(best(row, scan(*["????????"] * 5)), best_told(0, first_page()))

    def test_thousands_of_glyphs(self):
        glyphs = [glyph(k, "#", cost=4095 - k) for k in range(2500)]
        row = shop([face(1, *glyphs)])
        self.assertEqual(best(row, scan("?")), best_told(4095 - 2499, first_page(glyph_number=2499)))
        self.assertEqual(
            best(row, scan("?"), [NOT, 0, 1, 0, 1, 2499]), best_told(4095 - 2498, first_page(glyph_number=2498)))
        self.assertEqual(
            best(row, scan("?"), [STANDS, 0, 1, 0, 1, 7]), best_told(4095 - 7, first_page(glyph_number=7)))


if __name__ == "__main__":
    unittest.main()
