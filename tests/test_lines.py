"""Lines of up to 30 calls of all seven kinds, in any order: each is answered as if it were alone with its shop."""

import random
import unittest

from shoppages.desk import answers
from tests.helper import (
    BEST, BYTES, OPEN, TOKENS, best, call, draw_call, face, glyph, kind, letter, level, one_line, page, patched, run,
    scan, shop, sized)
from tests.test_best_reckoned import FewPlan, few_rows
from tests.test_reckoned import drawn_page, letters_of, numbers_of

SHOP = shop([face(1, glyph(1, "#", cost=2))], [kind(letters=level(gaps=((0, 9, 0, 0, 1),)))], upright=1, pose_cost=1)
PAGE = one_line(2, 1, letter(0, 0, 0), letter(0, 1, 0), pose=1)


class Drawing:
    """Calls that are drawn of a few shops, scans and pages, some of them wrong."""

    def __init__(self, draw):
        self.draw = draw
        self.plans = [FewPlan(draw) for k in range(2)]
        self.shops = [plan.form() for plan in self.plans]
        self.scans = [[], [83, 72, 84], scan("#?") + [1]]
        self.pages = [[], page(0), [0, 1, 2]]
        self.said = [[], [], [], [1], [3, 0, 1, 0, 1, 0]]
        for plan in self.plans:
            for k in range(3):
                width, height = draw.randint(1, 5), draw.randint(1, 3)
                told = drawn_page(draw, plan, width, height)
                self.pages.append(numbers_of(told))
                self.scans.append(scan(*few_rows(draw, plan, width, height)))
                box, one, wrong = draw.choice(list(letters_of(plan, told)))
                self.said += [[sort, *box, 0 if sort == 2 else one[0]] for sort in range(3)]
        self.met = self.met_pages()

    def met_pages(self):
        """Scans, nothing said of them, with a page each that could be by one of the shops."""
        met = []
        for row in self.shops:
            for one in self.scans:
                told = best(row, one)
                met += [(one, [], told[3:])] if told[0] == 0 else []
        return met

    def shop_call(self):
        row = self.draw.choice(self.shops)
        if self.draw.random() < 0.3:
            row = self.draw.choice(([], row[:-1], sized(row + [0]), patched(row, 24, [0])))
        return call(OPEN, row)

    def next_call(self):
        choose = self.draw.choice
        number = self.draw.randint(1, 7)
        if number == 1:
            return self.shop_call()
        if number in (2, 3) and self.met and self.draw.random() < 0.5:
            return call(number, *choose(self.met))
        if number in (2, 3):
            return call(number, choose(self.scans), choose(self.said), choose(self.pages))
        if number == 4:
            return call(TOKENS, choose(self.pages), choose(self.said)[1:])
        if number == 5:
            return draw_call(self.draw.randint(0, 9), self.draw.randint(0, 6), choose(self.pages))
        return call(BEST, choose(self.scans), choose(self.said)) if number == 6 else call(BYTES)


def expected(calls):
    """Each call alone, behind the call that its shop was taken with."""
    taken = None
    told = []
    for one in calls:
        if taken is None or one[0] == OPEN:
            told.append(run(one)[0])
        else:
            told.append(run(taken, one)[1])
        if one[0] == OPEN and told[-1] == [0]:
            taken = one
    return told


class Lines(unittest.TestCase):
    def test_any_order(self):
        seen = {}
        for seed in range(120):
            draw = random.Random(seed)
            drawing = Drawing(draw)
            calls = [drawing.next_call() for k in range(draw.choice((1, 2, 5, 29, 30)))]
            if draw.random() < 0.7:
                calls[0] = call(OPEN, drawing.shops[0])
            told = run(*calls)
            self.assertEqual(told, expected(calls), seed)
            for one, answer in zip(calls, told):
                seen[one[0], answer[0]] = seen.get((one[0], answer[0]), 0) + 1
        for number in range(1, 8):
            self.assertGreater(seen[number, 0], 20, (number, seen))
        for pair in ((1, -5), (2, -1), (2, -5), (3, -2), (4, -1), (5, -1), (6, -1), (6, -5), (6, -2)):
            self.assertGreater(seen[pair], 5, (pair, seen))
        self.assertTrue(all((number, -9) in seen for number in range(2, 8)), seen)

    def test_all_seven_by_hand(self):
        handed = [1, len(SHOP)] + SHOP
        handed += [2, 13] + scan("##") + [0, len(PAGE)] + PAGE
        handed += [3, 13] + scan("##") + [0, len(PAGE)] + PAGE
        handed += [4, len(PAGE)] + PAGE + [0]
        handed += [5, 3, 1, len(PAGE)] + PAGE
        handed += [6, 13] + scan("##") + [0]
        handed += [7]
        # In pose s = 1 the one row goes to the left: a letter is left, and an unclear point, for 2 and the pose's 1.
        least = [2, 1, 0, 0, 1, 0, 1, 0, 0, 1, 1, 0, 0, 0, 1, 0, 0, 0, 0, 0, 0, 0]
        self.assertEqual(answers(handed), (
            [1, 0] + [2, 0, 1] + [2, 0, 4] + [5, 0, 3, 9, 0, 9]
            + [16, 0, 14, 83, 72, 84, 49, 3, 0, 0, 0, 1, 0, 0, 0, 65, 0]
            + [25, 0, 3, 22] + least
            + [2 + len(SHOP), 0, len(SHOP)] + SHOP))

    def test_thirty_of_each(self):
        for one in (call(BEST, scan("##"), []), call(BYTES), draw_call(2, 1, PAGE)):
            told = run(call(OPEN, SHOP), *[one] * 29)
            self.assertEqual(told[2:], [told[1]] * 28)
            self.assertEqual(told[1][0], 0)


if __name__ == "__main__":
    unittest.main()
