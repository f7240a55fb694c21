"""bytes, and promise 7: a shop that's taken is the only one its bytes say, and written again the same bytes."""

import random
import unittest

from tests.helper import (
    BEST, BYTES, COST, COULD, OPEN, TOKENS, call, draw_call, face, glyph, kind, letter, level, one_line, page,
    patched, run, scan, shop, sized, u32)
from tests.test_best_reckoned import FewPlan
from tests.test_open import SHOP
from tests.test_reckoned import Plan

WIDE = glyph(9, "#.?#.?#.?#", "??????????", budget=256, cost=513)
WIDEST = glyph(4095, "#" * 64, "." * 64, "?" * 64)
RICH = shop(
    [face(2, glyph(7, "#.?", ".#?", budget=3, cost=4), WIDE, wrong=5),
     face(1),
     face(3, glyph(0, "#", ".", "?", budget=4096, cost=4095), WIDEST, wrong=4095)],
    [kind(1, 2, level((1, 2, 3, 4), ((5, 6, 7, 8, 4), (9, 10, 11, 12, 0)), (0, 1, 2, 3)),
          level(gaps=((0, 1, 2, 3, 2), (0, 1, 2, 3, 3))), level(gaps=((0, 1, 2, 3, 1),)), ((0, 1), (2, 3))),
     kind(4095, 8192, faces=((1, 4095),))],
    level(gaps=((1, 2, 3, 4, 5), (1, 2, 3, 4, 0))), 65536, 65535, 31, 4095)
SMALL = shop([face(1)], [kind(columns=level(gaps=()), lines=level(gaps=()), letters=level(gaps=()))], level(gaps=()))
LARGE = shop(
    [face(64, glyph(k, *["#" * 64] * 64)) for k in range(4)] + [face(1)] * 12,
    [kind(faces=[(k, k) for k in range(16)], letters=level(gaps=((0, 8192, 8192, 15, 1),) * 8))] * 16)


class Bytes(unittest.TestCase):
    def same(self, row):
        self.assertEqual(run(call(OPEN, row), call(BYTES)), [[0], [0, len(row)] + row])

    def test_every_part_of_the_form(self):
        self.assertLess(len(LARGE), 29000)
        for row in (SHOP, RICH, SMALL, LARGE):
            self.same(row)

    def test_numbers_answered(self):
        answer = run(call(OPEN, SMALL), [7])[1]
        self.assertEqual(answer[:10], [0, len(SMALL), 83, 72, 79, 80] + u32(len(SMALL)))

    def test_each_room_and_token(self):
        base = [(k, k + 20, k + 40, k % 16) for k in range(1, 13)]
        tokens = {"bands": (5, 0), "columns": (0, 4), "lines": (3, 2), "letters": (1, 0)}
        rules = {}
        for k, name in enumerate(("bands", "columns", "lines", "letters")):
            rooms = base[3 * k:3 * k + 3]
            gaps = [rooms[1] + (token,) for token in tokens[name]] + [(8192, 8192, 8192, 15, 0)]
            rules[name] = level(rooms[0], gaps, rooms[2])
        bands = rules.pop("bands")
        self.same(shop([face(1)], [kind(3, 4, **rules)], bands, 1, 2, 3, 4))

    def test_each_width_of_a_glyph(self):
        draw = random.Random(1)
        for width in range(1, 65):
            rows = ["".join(draw.choice("#.?") for x in range(width)) for y in range(3)]
            self.same(shop([face(3, glyph(5, *rows))]))

    def test_each_point_of_a_glyph(self):
        for sign in "#.":
            for place in range(20):
                signs = "?" * place + sign + "?" * (19 - place)
                self.same(shop([face(2, glyph(1, signs[:10], signs[10:]))]))

    def test_thousands_of_glyphs(self):
        self.same(shop([face(1, *[glyph(k, "#", budget=k, cost=k) for k in range(3000)])]))

    def test_drawn_shops(self):
        for seed in range(300):
            self.same(Plan(random.Random(seed)).form())
            self.same(FewPlan(random.Random(seed)).form())

    def test_each_byte_changed(self):
        """Taken or refused; if taken, it's another shop than that of the bytes it was changed from."""
        taken = 0
        for row in (SHOP, RICH):
            for place, byte in enumerate(row):
                for other in {0, 1, 255, byte ^ 1, byte ^ 2, byte ^ 16, (byte + 1) % 256} - {byte}:
                    changed = patched(row, place, [other])
                    told = run(call(OPEN, changed), call(BYTES))
                    if told[0] == [0]:
                        taken += 1
                        self.assertEqual(told[1], [0, len(changed)] + changed)
                    else:
                        self.assertEqual((told[0][0], told[1]), (-5, [-9]))
        self.assertGreater(taken, 500)


class Open(unittest.TestCase):
    """Of which shop the bytes are."""

    def test_no_shop(self):
        self.assertEqual(run(call(BYTES)), [[-9]])
        self.assertEqual(run(call(BYTES), call(OPEN, SMALL), call(BYTES))[::2], [[-9], [0, len(SMALL)] + SMALL])
        self.assertEqual(run(call(OPEN, SMALL[:-1]), call(BYTES)), [[-5, 1, 4], [-9]])

    def test_behind_a_refused_shop(self):
        for broken in (
                [], RICH[:-1], sized(RICH + [0]), sized(RICH[:-1]), patched(RICH, 24, u32(0)), patched(RICH, 0, [0])):
            told = run(call(OPEN, SHOP), call(OPEN, broken), call(BYTES))
            self.assertEqual(told[1][0], -5)
            self.assertEqual(told[2], [0, len(SHOP)] + SHOP)

    def test_behind_another_shop(self):
        told = run(call(OPEN, SHOP), call(BYTES), call(OPEN, SMALL), call(BYTES), call(OPEN, SHOP), call(BYTES))
        self.assertEqual([one[2:] for one in told[1::2]], [SHOP, SMALL, SHOP])

    def test_other_calls_change_nothing(self):
        row = shop([face(1, glyph(1, "#"))], upright=1)
        told = one_line(1, 1, letter(0, 0, 0))
        calls = [
            call(COULD, scan("#"), [], told), call(COST, scan("#"), [], told), call(TOKENS, told, []),
            draw_call(3, 2, told), call(BEST, scan("#"), []), call(BYTES), call(COST, scan("."), [], told),
            call(BEST, scan("."), []), call(COULD, [], [], page(0)), draw_call(0, 0, told), call(TOKENS, [], [])]
        for one in calls:
            answers = run(call(OPEN, row), one, call(BYTES))
            self.assertEqual(answers[2], [0, len(row)] + row)


if __name__ == "__main__":
    unittest.main()
