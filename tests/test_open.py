"""Promise 7 of open: a shop that's taken is the only one its bytes say."""

import unittest

from tests.helper import (
    COST, OPEN, TOKENS, band, call, column, could, face, glyph, kind, letter, level, line, one_line, page,
    patched, run, scan, shop, sized, tokens, u16, u32)

WIDE = glyph(9, "#.?#.?#.?#", "??????????", budget=1, cost=2)
FACE = face(2, glyph(7, "#.?", ".#?", budget=3, cost=4), WIDE, wrong=5)
RULE = level((1, 3, 2, 4), ((0, 5, 1, 2, 0),), (0, 8, 3, 1))
SHOP = shop(
    [FACE], [kind(6, 2, RULE, RULE, RULE, ((0, 8),))], RULE,
    density=100, slack=2, upright=3, pose_cost=7)

# Where SHOP's numbers stand: each level has one gap, so 14 numbers.
LEVELS = (32, 96, 152, 208)
LEVEL_TOKENS = ((5,), (4,), (2, 3), (1,))
KIND = 88
FACES_COUNT = 264
FACE_LENGTH = 276
FORM = 280
FORM_END = 280 + len(FACE)


def opened(row):
    return run(call(OPEN, row))[0]


def with_number(place, number):
    return patched(SHOP, place, u32(number))


def with_face(form):
    return shop(
        [form], [kind(6, 2, RULE, RULE, RULE, ((0, 8),))], RULE,
        density=100, slack=2, upright=3, pose_cost=7)


class Judged(unittest.TestCase):
    def taken(self, row):
        self.assertEqual(opened(row), [0])

    def refused(self, row, rule, place):
        self.assertEqual(opened(row), [-5, rule, place])

    def bounds(self, place, least, most, rule):
        """The number at that place is taken from least to most."""
        for number in (least, most):
            self.taken(with_number(place, number))
        for number in (least - 1, most + 1, 2 ** 32 - 1):
            if number >= 0:
                self.refused(with_number(place, number), rule, place)


class Frame(Judged):
    def test_a_shop_is_taken(self):
        self.assertEqual(len(SHOP), FORM_END)
        self.taken(SHOP)

    def test_fewer_than_32_bytes(self):
        for size in range(32):
            self.refused(SHOP[:size], 1, 0)
            if size >= 8:
                self.refused(sized(SHOP[:size]), 1, 0)

    def test_another_mark(self):
        for place in range(4):
            self.refused(patched(SHOP, place, [SHOP[place] ^ 1]), 1, 0)

    def test_another_length(self):
        for length in (0, len(SHOP) - 1, len(SHOP) + 1, len(SHOP) + 256, len(SHOP) + 2 ** 24, 2 ** 32 - 1):
            self.refused(patched(SHOP, 4, u32(length)), 1, 4)
        self.refused(SHOP + [0], 1, 4)
        self.refused(SHOP[:-1], 1, 4)

    def test_the_frame_is_judged_in_order(self):
        self.refused(patched(SHOP[:31], 0, [0]), 1, 0)
        self.refused(patched(patched(SHOP, 0, [0]), 4, u32(0)), 1, 0)
        self.refused(patched(patched(SHOP, 4, u32(0)), 8, u32(65537)), 1, 4)

    def test_bytes_that_end_within_a_number(self):
        for size in range(32, FORM):
            self.refused(sized(SHOP[:size]), 1, size)

    def test_bytes_left_at_the_end(self):
        self.refused(sized(SHOP + [0]), 7, FORM_END)
        self.refused(sized(SHOP + [255, 1, 2]), 7, FORM_END)


class Head(Judged):
    def test_bounds(self):
        self.bounds(8, 0, 65536, 2)
        self.bounds(12, 0, 65536, 2)
        self.bounds(16, 0, 31, 2)
        self.bounds(20, 0, 4095, 2)

    def test_counts_of_faces_and_kinds(self):
        for place in (24, 28):
            for number in (0, 17, 2 ** 32 - 1):
                self.refused(with_number(place, number), 2, place)

    def test_most_faces_and_kinds(self):
        small = face(1)
        self.taken(shop([small] * 16, [kind(faces=[(k, k) for k in range(16)])] * 16))
        for number in (2, 16):
            # Taken as a count: what's wrong is then that the faces' own bytes aren't there.
            self.refused(with_number(24, number), 1, FORM_END)

    def test_the_first_that_is_broken(self):
        row = SHOP
        for place in (28, 24, 20, 16, 12, 8):
            row = patched(row, place, u32(70000))
            self.refused(row, 2, place)


class Levels(Judged):
    def rooms(self):
        for start in LEVELS:
            for place in (start, start + 20, start + 40):
                yield place

    def test_rooms_bounds(self):
        for place in self.rooms():
            most = SHOP[place + 4]
            self.taken(with_number(place, most))
            self.refused(with_number(place, most + 1), 3, place + 4)
            self.taken(patched(with_number(place, 8192), place + 4, u32(8192)))
            self.refused(with_number(place, 8193), 3, place)
            self.bounds(place + 4, SHOP[place], 8192, 3)
            self.bounds(place + 8, 0, 8192, 3)
            self.bounds(place + 12, 0, 15, 3)

    def test_the_first_that_is_broken(self):
        for place in self.rooms():
            row = SHOP
            for k in (3, 2, 1, 0):
                row = patched(row, place + 4 * k, u32(9000))
                self.refused(row, 3, place + 4 * k)

    def test_gaps_count(self):
        for start in LEVELS:
            for number in (9, 256, 2 ** 32 - 1):
                self.refused(with_number(start + 16, number), 4, start + 16)

    def test_no_gaps_and_eight(self):
        for count in (0, 8):
            rule = level(gaps=((0, 1, 0, 0, 0),) * count)
            self.taken(shop([FACE], [kind(columns=rule, lines=rule, letters=rule)], rule))

    def test_tokens(self):
        for start, mays in zip(LEVELS, LEVEL_TOKENS):
            place = start + 36
            for number in list(range(12)) + [256, 65536, 2 ** 32 - 1]:
                if number == 0 or number in mays:
                    self.taken(with_number(place, number))
                else:
                    self.refused(with_number(place, number), 4, place)

    def test_rooms_and_tokens_in_their_order(self):
        for start in LEVELS:
            row = with_number(start + 40, 9000)
            self.refused(row, 3, start + 40)
            row = patched(row, start + 36, u32(9))
            self.refused(row, 4, start + 36)
            row = patched(row, start + 32, u32(16))
            self.refused(row, 3, start + 32)
            row = patched(row, start + 16, u32(9))
            self.refused(row, 4, start + 16)
            row = patched(row, start + 12, u32(16))
            self.refused(row, 3, start + 12)


class Kinds(Judged):
    def test_cost_and_least(self):
        self.bounds(KIND, 0, 4095, 5)
        self.bounds(KIND + 4, 1, 8192, 5)

    def test_faces_count(self):
        for number in (0, 17, 2 ** 32 - 1):
            self.refused(with_number(FACES_COUNT, number), 5, FACES_COUNT)

    def test_a_face_too_large(self):
        self.bounds(FACES_COUNT + 4, 0, 0, 5)
        self.taken(shop([FACE] * 3, [kind(faces=((2, 0),))]))
        self.refused(shop([FACE] * 3, [kind(faces=((3, 0),))]), 5, FACES_COUNT + 4)

    def test_a_face_not_rising(self):
        place = FACES_COUNT + 12
        self.taken(shop([FACE] * 3, [kind(faces=((0, 0), (2, 0)))]))
        self.refused(shop([FACE] * 3, [kind(faces=((1, 0), (1, 0)))]), 5, place)
        self.refused(shop([FACE] * 3, [kind(faces=((1, 0), (0, 0)))]), 5, place)
        self.refused(shop([FACE] * 3, [kind(faces=((2, 0), (3, 0)))]), 5, place)

    def test_a_face_cost(self):
        self.bounds(FACES_COUNT + 8, 0, 4095, 5)

    def test_the_second_kind(self):
        second = FACE_LENGTH
        row = shop([FACE], [kind(), kind(4096, 0)])
        self.refused(row, 5, second)
        self.refused(patched(row, second, u32(0)), 5, second + 4)

    def test_the_first_that_is_broken(self):
        row = SHOP
        for place in (FACES_COUNT + 8, FACES_COUNT + 4, FACES_COUNT, KIND + 4, KIND):
            row = patched(row, place, u32(9000))
            self.refused(row, 5, place)


class Faces(Judged):
    def test_a_length_behind_the_shops_end(self):
        for length in (len(FACE) + 1, 2 ** 32 - 1):
            self.refused(with_number(FACE_LENGTH, length), 6, FACE_LENGTH)
        for size in range(FORM, FORM_END):
            self.refused(sized(SHOP[:size]), 6, FACE_LENGTH)

    def test_bytes_that_end_too_early(self):
        for size in range(len(FACE)):
            self.refused(with_face(FACE[:size]), 69, FORM + size)

    def test_a_shorter_length_leaves_the_face_unfinished(self):
        for size in range(len(FACE)):
            self.refused(with_number(FACE_LENGTH, size), 69, FORM + size)

    def test_mark(self):
        for place in range(4):
            self.refused(with_face(patched(FACE, place, [0])), 65, FORM + place)
            self.refused(with_face(patched(FACE, place, [0])[:place + 1]), 65, FORM + place)

    def test_height(self):
        self.taken(with_face(face(1)))
        self.taken(with_face(face(64, glyph(1, *["#"] * 64))))
        self.refused(with_face(face(0)), 66, FORM + 4)
        self.refused(with_face(face(65)), 66, FORM + 4)

    def test_cost_of_a_wrong_point(self):
        self.taken(with_face(face(1, wrong=4095)))
        self.refused(with_face(face(1, wrong=4096)), 66, FORM + 5)

    def test_how_many_glyphs(self):
        self.taken(with_face(face(1)))
        self.taken(with_face(face(1, *[glyph(k, "?") for k in range(2000)])))
        self.refused(with_face(patched(FACE, 7, u16(4097))), 66, FORM + 7)
        self.refused(with_face([83, 72, 70, 49, 1, 0, 0] + u16(4096)), 69, FORM + 9)

    def test_a_glyphs_numbers(self):
        for row in (glyph(4095, "?"), glyph(0, "?" * 64), glyph(0, "?", budget=4096), glyph(0, "?", cost=4095)):
            self.taken(with_face(face(1, row)))
        self.refused(with_face(face(1, glyph(4096, "?"))), 67, FORM + 9)
        self.refused(with_face(face(1, glyph(0, "?" * 65))), 67, FORM + 11)
        self.refused(with_face(face(1, patched(glyph(0, "?"), 2, [0]))), 67, FORM + 11)
        self.refused(with_face(face(1, glyph(0, "?", budget=4097))), 67, FORM + 12)
        self.refused(with_face(face(1, glyph(0, "?", cost=4096))), 67, FORM + 14)

    def test_a_bit_behind_the_last_column(self):
        wide = face(2, WIDE)
        # Two planes from byte 16 on, of two rows of two bytes each; two columns in a row's last byte.
        for place in (17, 19, 21, 23):
            for bit in (4, 8, 128):
                self.refused(with_face(patched(wide, place, [wide[place] | bit])), 68, FORM + place)
        self.taken(with_face(face(1, glyph(1, "########"), glyph(1, "#" * 16))))
        self.taken(with_face(face(1, glyph(1, "........"), glyph(1, "." * 64))))
        narrow = face(1, glyph(1, "?"))
        self.taken(with_face(patched(narrow, 16, [1])))
        self.refused(with_face(patched(narrow, 16, [2])), 68, FORM + 16)

    def test_a_point_that_must_be_both(self):
        wide = face(2, WIDE)
        # The first row's paper stands at 20 and 21, the second row's at 22 and 23.
        self.refused(with_face(patched(wide, 20, [wide[20] | 1])), 68, FORM + 20)
        self.refused(with_face(patched(wide, 21, [2])), 68, FORM + 20)
        second = patched(patched(wide, 19, [1]), 23, [1])
        self.refused(with_face(second), 68, FORM + 22)
        self.refused(with_face(patched(second, 20, [wide[20] | 1])), 68, FORM + 20)

    def test_both_is_asked_behind_both_planes(self):
        wide = patched(face(2, WIDE), 20, [255])
        self.refused(with_face(wide), 68, FORM + 20)
        self.refused(with_face(patched(wide, 23, [128])), 68, FORM + 23)
        self.refused(with_face(wide[:23]), 69, FORM + 23)

    def rises(self, first, second):
        self.taken(with_face(face(1, first, second)))
        for before, after in ((second, first), (first, first), (second, second)):
            self.refused(with_face(face(1, before, after)), 70, FORM + 9 + len(before))

    def test_glyphs_rise(self):
        self.rises(glyph(1, "##"), glyph(2, "?"))
        self.rises(glyph(255, "?"), glyph(256, "?"))
        self.rises(glyph(1, "#", budget=9), glyph(1, "??"))
        self.rises(glyph(1, "#", cost=9), glyph(1, "?", budget=1))
        self.rises(glyph(1, "#"), glyph(1, "?", cost=1))
        self.rises(glyph(1, "."), glyph(1, "#"))
        self.rises(glyph(1, "?"), glyph(1, "."))

    def test_bytes_tell_which_rises_not_the_numbers(self):
        self.rises(glyph(1, "?", budget=256), glyph(1, "?", budget=1))
        self.rises(glyph(1, "?", cost=512), glyph(1, "?", cost=3))

    def test_rising_is_asked_behind_all_of_the_glyph(self):
        twice = face(1, glyph(1, "???"), glyph(1, "???"))
        second = 9 + 9
        self.refused(with_face(twice), 70, FORM + second)
        self.refused(with_face(patched(twice, second + 8, [8])), 68, FORM + second + 8)
        self.refused(with_face(twice[:-1]), 69, FORM + len(twice) - 1)
        self.refused(with_face(twice + [0]), 70, FORM + second)

    def test_bytes_left_over(self):
        self.refused(with_face(FACE + [0]), 71, FORM + len(FACE))
        self.refused(with_face(FACE + [0, 1]), 71, FORM + len(FACE))

    def test_the_second_face(self):
        row = shop([FACE, patched(FACE, 4, [0])])
        self.refused(row, 66, FORM_END + 4 + 4)
        self.refused(sized(shop([FACE, FACE])[:FORM_END + 3]), 1, FORM_END + 3)
        self.refused(shop([patched(FACE, 4, [0]), FACE + [0]]), 66, FORM + 4)

    def test_the_face_is_judged_ahead_of_what_is_left(self):
        self.refused(sized(with_face(FACE[:-1]) + [0]), 69, FORM_END - 1)


class Place(unittest.TestCase):
    """Which shop is open."""

    def setUp(self):
        self.first = shop([face(1, glyph(3, "#", cost=5))])
        self.second = shop([face(1, glyph(4, "#", cost=6))])
        self.page = one_line(1, 1, letter(0, 0, 0))

    def test_a_second_shop_in_the_place_of_the_first(self):
        told = run(
            call(OPEN, self.first), call(TOKENS, self.page, []), call(COST, scan("#"), [], self.page),
            call(OPEN, self.second), call(TOKENS, self.page, []), call(COST, scan("#"), [], self.page))
        self.assertEqual(told, [[0], [0, 1, 11], [0, 5], [0], [0, 1, 12], [0, 6]])

    def test_a_refused_shop_leaves_the_one_that_was_open(self):
        broken = [
            [], self.second[:40], sized(self.second + [0]), patched(self.second, 24, u32(0)),
            patched(self.second, len(self.second) - 1, [2])]
        for row in broken:
            told = run(call(OPEN, self.first), call(OPEN, row), call(TOKENS, self.page, []))
            self.assertEqual(told[0], [0])
            self.assertEqual(told[1][0], -5)
            self.assertEqual(told[2], [0, 1, 11])

    def test_a_refused_shop_leaves_none_open(self):
        told = run(call(OPEN, sized(self.first + [0])), call(TOKENS, self.page, []))
        self.assertEqual(told, [[-5, 7, len(self.first)], [-9]])

    def test_the_same_shop_again(self):
        told = run(call(OPEN, self.first), call(OPEN, self.first), call(TOKENS, self.page, []))
        self.assertEqual(told, [[0], [0], [0, 1, 11]])

    def test_faces_by_their_numbers(self):
        row = shop([face(1, glyph(3, "#")), face(2, glyph(4, "#", "."))], [kind(faces=((0, 0), (1, 0)))])
        self.assertEqual(tokens(row, one_line(1, 2, letter(0, 0, 0), face_number=1)), [0, 1, 12])
        self.assertEqual(could(row, scan("#", "."), one_line(1, 2, letter(0, 0, 0), face_number=1)), [0, 1])
        self.assertEqual(could(row, scan("#", "#"), one_line(1, 2, letter(0, 0, 0), face_number=1)), [0, 0])

    def test_a_face_without_glyphs_has_none_to_name(self):
        row = shop([face(1)])
        self.assertEqual(could(row, scan("#"), one_line(1, 1, letter(0, 0, 0))), [-1])
        empty = page(0, band(0, 0, 1, 0, column(0, 0, 1, line(0, 0, 0))))
        self.assertEqual(could(row, scan("#"), empty), [0, 0])


if __name__ == "__main__":
    unittest.main()
