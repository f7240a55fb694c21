"""best against a plain reckoning that goes through all pages that could be, over many small shops and scans.

The shops, scans and things said are drawn from a seeded source, so that every run asks the same.
"""

import itertools
import random
import unittest

from tests.helper import BEST, COST, COULD, OPEN, best_told, call, glyph, run, scan
from tests.test_reckoned import (
    Plan, drawn_box, drawn_page, drawn_scan, letters_of, numbers_of, reckoned)

MOST_PAGES = 1500
SIZES = ((1, 1), (2, 1), (3, 1), (5, 1), (2, 2), (3, 2), (1, 3), (1, 4), (1, 5), (2, 3), (2, 4), (4, 2), (3, 3))


# What is drawn: little choice of costs, so that many pages cost the same.

def few_room(draw, least, mores):
    most = min(least + draw.choice(mores), 8192)
    return (least, most, draw.choice((0, 0, 1, 2, 8192)), draw.choice((0, 0, 0, 1, 2, 15)))


def few_level(draw, token):
    """Mostly little room ahead and behind, so that a row has to have more than one item."""
    mores = draw.choice(((0,), (0, 0, 1), (1, 2), (8192,)))
    gaps = [few_room(draw, draw.choice((0, 0, 1)), (0, 1, 8192)) + (draw.choice((0, token)),)
            for k in range(draw.choice((0, 1, 1, 2, 2)))]
    return (few_room(draw, draw.choice((0, 0, 0, 0, 0, 1)), mores), gaps, few_room(draw, 0, mores))


def few_face(draw):
    height = draw.choice((1, 1, 2))
    glyphs = {}
    looks = draw.choice(("#.?", "#?", "??#", "##."))
    for k in range(draw.choice((1, 2, 2, 3))):
        width = draw.choice((1, 1, 2))
        rows = tuple("".join(draw.choice(looks) for i in range(width)) for j in range(height))
        one = (draw.randint(1, 2), draw.choice((0, 0, 1, 4)), draw.choice((0, 0, 1, 2, 3)), rows)
        glyphs[tuple(glyph(one[0], *rows, budget=one[1], cost=one[2]))] = one
    order = sorted(glyphs, key=lambda form: (form[0] + 256 * form[1], form[2], form[3:]))
    return (height, draw.choice((0, 1, 2, 3)), [glyphs[form] for form in order])


class FewPlan(Plan):
    """A shop of few choices, within what best is handed."""

    def __init__(self, draw):
        self.density = draw.choice((0, 0, 16384, 32768))
        self.slack = draw.choice((0, 0, 1, 2, 65536))
        self.upright = draw.choice((0, 0, 1))
        self.step = draw.choice((0, 0, 1, 2))
        self.faces = [few_face(draw) for k in range(draw.choice((1, 1, 2)))]
        self.bands = few_level(draw, 5)
        self.kinds = [self.few_kind(draw) for k in range(draw.choice((1, 1, 2)))]

    def few_kind(self, draw):
        count = len(self.faces)
        numbers = [k for k in range(count) if draw.random() < 0.7] or [draw.randrange(count)]
        return (
            draw.choice((0, 0, 1)), draw.choice((1, 1, 1, 2)), few_level(draw, 4), few_level(draw, 2),
            few_level(draw, 1), {k: draw.choice((0, 0, 1)) for k in numbers})


def few_rows(draw, plan, width, height):
    """All unclear, any points at all, or points that mostly look like some page."""
    how = draw.randrange(4)
    if how == 0:
        return ["?" * width] * height
    if how == 1:
        signs = draw.choice(("#.?", "..#", "??.#", "#."))
        return ["".join(draw.choice(signs) for x in range(width)) for y in range(height)]
    return drawn_scan(draw, plan, drawn_page(draw, plan, width, height), width, height)


# All pages whose blanks' sizes are within their rules, whatever the scan looks like.

def all_rows(rule, start, end, items_at):
    """Lists of (gap, item); items_at yields the items that begin somewhere, each with its end."""
    lead, gaps, trail = rule

    def behind(edge, rooms):
        for first in range(edge, end):
            for gap, room in enumerate(rooms):
                if room[0] <= first - edge <= room[1]:
                    for item, item_end in items_at(first):
                        if item_end <= end:
                            for more in rest(item_end):
                                yield [(gap, item)] + more

    def rest(edge):
        if trail[0] <= end - edge <= trail[1]:
            yield []
        yield from behind(edge, gaps)

    return behind(start, [lead])


def all_bands(plan, width, height):
    def items_at(first):
        for end in range(first + 1, height + 1):
            for number, one in enumerate(plan.kinds):
                for columns in all_columns(plan, one, first, end, width):
                    yield (first, end, number, columns), end

    for row in all_rows(plan.bands, 0, height, items_at):
        yield [(gap, *item) for gap, item in row]


def all_columns(plan, one, y0, y1, width):
    def items_at(first):
        for end in range(first + one[1], width + 1):
            for lines in all_lines(plan, one, first, end, y0, y1):
                yield (first, end, lines), end

    for row in all_rows(one[2], 0, width, items_at):
        yield [(gap, *item) for gap, item in row]


def all_lines(plan, one, x0, x1, y0, y1):
    def items_at(first):
        for number in one[5]:
            for letters in all_letters(plan.faces[number][2], one[4], x0, x1):
                yield (first, number, letters), first + plan.faces[number][0]

    for row in all_rows(one[3], y0, y1, items_at):
        yield [(gap, *item) for gap, item in row]


def all_letters(glyphs, rule, x0, x1):
    def items_at(first):
        for number, one in enumerate(glyphs):
            yield (first, number), first + len(one[3][0])

    for row in all_rows(rule, x0, x1, items_at):
        yield [(gap, *item) for gap, item in row]


def all_pages(plan, width, height):
    for bands in all_bands(plan, width, height):
        for pose in range(2 * plan.upright + 1):
            yield (pose, bands)


class Possible:
    """All pages that could be a scan of which nothing is said, each with its reckoning."""

    def __init__(self, plan, rows):
        told = list(itertools.islice(all_pages(plan, len(rows[0]), len(rows)), MOST_PAGES + 1))
        self.too_many = len(told) > MOST_PAGES
        self.pages = []
        for one in [] if self.too_many else told:
            known = reckoned(plan, rows, one)
            if known is not None:
                self.pages.append((known.cost, numbers_of(one), known))

    def agreeing(self, said):
        things = [(said[k], tuple(said[k + 1:k + 5]), said[k + 5]) for k in range(0, len(said), 6)]
        return [one for one in self.pages if all(one[2].agrees(*thing) for thing in things)]


def least_of(pages):
    return min([(cost, numbers) for cost, numbers, known in pages], default=None)


def drawn_said(draw, width, height, pages):
    """Things said, many of them of letters that stand on some page."""
    said = []
    for k in range(draw.choice((1, 1, 1, 2, 3))):
        sort = draw.randrange(3)
        spot = list(drawn_box(draw, width, height)) + [draw.randint(1, 2)]
        if pages and draw.random() < 0.8:
            box, one = draw.choice(draw.choice(pages)[2].letters)
            spot = list(box) + [one[0]]
        if draw.random() < 0.1:
            # No further: the reckoning goes through all the box's points.
            spot[1] = draw.choice((spot[1], width + 1, width + 9))
            spot[3] = draw.choice((spot[3], height + 1, height + 9))
        if sort == 2:
            spot[4] = 0
        said += [sort] + spot
    return said


class BestOfAll(unittest.TestCase):
    """Promise 1, and promise 4 of best."""

    def setUp(self):
        self.seen = dict.fromkeys(
            ("none", "one", "several", "several least", "another pose", "another kind", "another face",
             "another gap", "two bands", "two columns", "two lines", "said changes it", "said leaves none",
             "stands met"), 0)

    def test_many(self):
        asked = 0
        for seed in range(900):
            draw = random.Random(seed)
            plan = FewPlan(draw)
            width, height = draw.choice(SIZES)
            rows = few_rows(draw, plan, width, height)
            possible = Possible(plan, rows)
            if not possible.too_many:
                self.check(draw, plan, rows, possible, seed)
                asked += 1
        self.assertGreater(asked, 500)
        self.assertTrue(all(count > 10 for count in self.seen.values()), self.seen)

    def check(self, draw, plan, rows, possible, seed):
        said = [[]] + [drawn_said(draw, len(rows[0]), len(rows), possible.pages) for k in range(4)]
        told = run(call(OPEN, plan.form()), *[call(BEST, scan(*rows), one) for one in said])[1:]
        free = least_of(possible.pages)
        for one, answer in zip(said, told):
            pages = possible.agreeing(one)
            least = least_of(pages)
            self.assertEqual(answer, [-2] if least is None else best_told(*least), (seed, one))
            if one:
                self.seen["said changes it"] += least is not None and least != free
                self.seen["said leaves none"] += least is None and free is not None
                self.seen["stands met"] += least is not None and one[0] == 0
            else:
                self.see(plan, pages, least)

    def see(self, plan, pages, least):
        if least is None:
            self.seen["none"] += 1
            return
        self.seen["one" if len(pages) == 1 else "several"] += 1
        self.seen["several least"] += [one[0] for one in pages].count(least[0]) > 1
        self.seen["another pose"] += least[1][0] != 0
        self.look_at(least[1])

    def look_at(self, numbers):
        place = 1
        counts = []
        while numbers[place]:
            counts.append(("bands", numbers[place + 1], numbers[place + 4]))
            place += 5
            while numbers[place]:
                counts.append(("columns", numbers[place + 1], 0))
                place += 4
                while numbers[place]:
                    counts.append(("lines", numbers[place + 1], numbers[place + 3]))
                    place += 4
                    while numbers[place]:
                        counts.append(("letters", numbers[place + 1], 0))
                        place += 4
                    place += 1
                place += 1
            place += 1
        self.assertEqual(place, len(numbers) - 1)
        self.seen["another kind"] += any(one[0] == "bands" and one[2] for one in counts)
        self.seen["another face"] += any(one[0] == "lines" and one[2] for one in counts)
        self.seen["another gap"] += any(one[1] for one in counts)
        for level in ("bands", "columns", "lines"):
            self.seen["two " + level] += sum(one[0] == level for one in counts) > 1


class BestOfSome(unittest.TestCase):
    """On scans too large to go through all pages: what best tells could be, and no page that's known is less."""

    def drawn(self, seed):
        draw = random.Random(seed)
        plan = draw.choice((Plan, FewPlan))(draw)
        plan.upright = min(plan.upright, 1)
        width, height = draw.randint(4, 8), draw.randint(2, 5)
        pages = [drawn_page(draw, plan, width, height) for k in range(6)]
        rows = drawn_scan(draw, plan, pages[0], width, height)
        return draw, plan, rows, pages

    def test_no_known_page_is_less(self):
        seen = {"none": 0, "known": 0, "told": 0}
        for seed in range(400):
            draw, plan, rows, pages = self.drawn(seed)
            answer = run(call(OPEN, plan.form()), call(BEST, scan(*rows), []))[1]
            known = [(one.cost, numbers_of(told)) for told in pages for one in [reckoned(plan, rows, told)] if one]
            if answer == [-2]:
                self.assertEqual(known, [], seed)
                seen["none"] += 1
                continue
            seen["told"] += 1
            seen["known"] += bool(known)
            for one in known:
                self.assertLessEqual((answer[1], answer[3:]), one, seed)
        self.assertTrue(all(count > 20 for count in seen.values()), seen)

    def test_what_is_told_could_be_at_that_cost(self):
        """Promise 2 of best; with things said, too."""
        could = 0
        for seed in range(400):
            draw, plan, rows, pages = self.drawn(seed)
            spots = [list(box) + [one[0]] for box, one, wrong in letters_of(plan, pages[0])]
            for said in ([], [0] + draw.choice(spots), [1] + draw.choice(spots), [2] + draw.choice(spots)[:4] + [0]):
                row = scan(*rows)
                answer = run(call(OPEN, plan.form()), call(BEST, row, said))[1]
                if answer == [-2]:
                    continue
                could += 1
                told = run(
                    call(OPEN, plan.form()), call(COULD, row, said, answer[3:]), call(COST, row, said, answer[3:]))
                self.assertEqual(told[1:], [[0, 1], [0, answer[1]]], (seed, said))
                self.assertEqual(answer[2], len(answer[3:]))
        self.assertGreater(could, 400)

    def test_points_made_unclear_make_it_no_dearer(self):
        """Promise 5 of best."""
        less = 0
        for seed in range(150):
            draw, plan, rows, pages = self.drawn(seed)
            before = run(call(OPEN, plan.form()), call(BEST, scan(*rows), []))[1]
            for share in (0.1, 0.5, 1):
                unclear = ["".join("?" if draw.random() < share else sign for sign in row) for row in rows]
                after = run(call(OPEN, plan.form()), call(BEST, scan(*unclear), []))[1]
                if before[0] == 0:
                    self.assertEqual(after[0], 0, seed)
                    self.assertLessEqual(after[1], before[1], seed)
                    told = run(call(OPEN, plan.form()), call(COST, scan(*unclear), [], before[3:]))[1]
                    self.assertEqual(told[0], 0, seed)
                    self.assertLessEqual(told[1], before[1], seed)
                    self.assertLessEqual((after[1], after[3:]), (told[1], before[3:]), seed)
                less += after != before
        self.assertGreater(less, 50)

    def test_what_is_said_makes_it_no_cheaper(self):
        """Promise 4 of best: said what's so of the best, it stays; said what isn't, it's another or none."""
        for seed in range(150):
            draw, plan, rows, pages = self.drawn(seed)
            row = scan(*rows)
            free = run(call(OPEN, plan.form()), call(BEST, row, []))[1]
            for k in range(4):
                x0, y0 = draw.randrange(len(rows[0])), draw.randrange(len(rows))
                said = [draw.randrange(3), x0, x0 + draw.randint(1, 2), y0, y0 + draw.randint(1, 2), draw.randint(1, 3)]
                said[5] = 0 if said[0] == 2 else said[5]
                told = run(call(OPEN, plan.form()), call(BEST, row, said), *[
                    call(COULD, row, said, free[3:])] if free[0] == 0 else [])
                if free == [-2]:
                    self.assertEqual(told[1], [-2], seed)
                elif told[2] == [0, 1]:
                    self.assertEqual(told[1], free, seed)
                elif told[1] != [-2]:
                    self.assertGreater((told[1][1], told[1][3:]), (free[1], free[3:]), seed)


if __name__ == "__main__":
    unittest.main()
