"""could, cost and tokens against a reckoning of its own, point by point, over many small shops and pages.

The shops, scans and pages are drawn from a seeded source, so that every run asks the same.
"""

import math
import random
import unittest
from fractions import Fraction

from tests.helper import (
    COST, COULD, OPEN, TOKENS, band, call, column, face, glyph, kind, letter, level, line, page, run, scan, shop)


class NotSo(Exception):
    """The page couldn't be."""


def need(holds):
    if not holds:
        raise NotSo()


# What is drawn.

def drawn_room(draw):
    least = draw.choice((0, 0, 0, 0, 0, 0, 0, 1))
    return (least, least + draw.choice((2, 5, 9, 9, 9, 9)), draw.randint(0, 4), draw.randint(0, 15))


def drawn_level(draw, mays):
    gaps = [drawn_room(draw) + (draw.choice(mays),) for k in range(draw.choice((0, 1, 1, 2, 3)))]
    return (drawn_room(draw), gaps, drawn_room(draw))


def drawn_face(draw):
    height = draw.randint(1, 2)
    glyphs = {}
    for k in range(draw.randint(1, 3)):
        width = draw.randint(1, 3)
        rows = tuple("".join(draw.choice("##..?") for i in range(width)) for j in range(height))
        one = (draw.randint(1, 3), draw.choice((0, 1, 2, 9)), draw.randint(0, 99), rows)
        glyphs[tuple(glyph(one[0], *rows, budget=one[1], cost=one[2]))] = one
    # By letter, width, and the bytes behind these.
    order = sorted(glyphs, key=lambda form: (form[0] + 256 * form[1], form[2], form[3:]))
    return (height, draw.randint(0, 99), [glyphs[form] for form in order])


class Plan:
    """A shop as it was drawn."""

    def __init__(self, draw):
        self.density = draw.choice((0, 0, 8000, 30000))
        self.slack = draw.choice((0, 1, 2, 9, 9))
        self.upright = draw.randint(0, 3)
        self.step = draw.randint(0, 99)
        self.faces = [drawn_face(draw) for k in range(draw.randint(1, 2))]
        self.bands = drawn_level(draw, (0, 5))
        self.kinds = [self.drawn_kind(draw) for k in range(draw.randint(1, 2))]

    def drawn_kind(self, draw):
        count = len(self.faces)
        numbers = [k for k in range(count) if draw.random() < 0.8] or [draw.randrange(count)]
        return (
            draw.randint(0, 99), draw.choice((1, 1, 2)), drawn_level(draw, (0, 4)), drawn_level(draw, (0, 2, 3)),
            drawn_level(draw, (0, 1)), {k: draw.randint(0, 99) for k in numbers})

    def form(self):
        faces = [
            face(height, *[glyph(one[0], *one[3], budget=one[1], cost=one[2]) for one in glyphs], wrong=wrong)
            for height, wrong, glyphs in self.faces]
        kinds = [
            kind(one[0], one[1], level(*one[2]), level(*one[3]), level(*one[4]), list(one[5].items()))
            for one in self.kinds]
        return shop(faces, kinds, level(*self.bands), self.density, self.slack, self.upright, self.step)


def laid_out(draw, rule, start, end, sizes):
    """Items (gap, first, end, which size) along a level, mostly within its rule."""
    edge = start + draw.randint(rule[0][0], min(rule[0][0] + 1, rule[0][1]))
    items = []
    while True:
        size, which = draw.choice(sizes)
        size = size if size else draw.randint(1, max(1, end - edge))
        if edge + size > end and items:
            break
        gap = draw.randrange(len(rule[1])) if items else 0
        items.append((gap, edge, edge + size, which))
        edge += size
        if not rule[1] or draw.random() < 0.3:
            break
        edge += draw.randint(0, 2)
    return items


def drawn_page(draw, plan, width, height):
    bands = []
    for gap, y0, y1, number in laid_out(draw, plan.bands, 0, height, [(0, k) for k in range(len(plan.kinds))]):
        one = plan.kinds[number]
        columns = []
        for column_gap, x0, x1, nothing in laid_out(draw, one[2], 0, width, [(0, 0)]):
            lines = []
            faces = [(plan.faces[k][0], k) for k in one[5]]
            for line_gap, row, row_end, face_number in laid_out(draw, one[3], y0, y1, faces):
                glyphs = [(len(g[3][0]), k) for k, g in enumerate(plan.faces[face_number][2])]
                letters = [(g, x, k) for g, x, end, k in laid_out(draw, one[4], x0, x1, glyphs)]
                lines.append((line_gap, row, face_number, letters))
            columns.append((column_gap, x0, x1, lines))
        bands.append((gap, y0, y1, number, columns))
    return (draw.choice((plan.upright, draw.randint(0, 2 * plan.upright + 1))), bands)


def numbers_of(told):
    pose, bands = told
    return page(pose, *[
        band(gap, y0, y1, number, *[
            column(g, x0, x1, *[
                line(h, row, k, *[letter(*one) for one in letters])
                for h, row, k, letters in lines])
            for g, x0, x1, lines in columns])
        for gap, y0, y1, number, columns in bands])


def letters_of(plan, told):
    """Each letter's box as its points, its corners, its glyph and its face."""
    for gap, y0, y1, number, columns in told[1]:
        for column_gap, x0, x1, lines in columns:
            for line_gap, row, face_number, letters in lines:
                height, wrong, glyphs = plan.faces[face_number]
                for letter_gap, x, k in letters:
                    yield (x, x + len(glyphs[k][3][0]), row, row + height), glyphs[k], wrong


def drawn_scan(draw, plan, told, width, height):
    """Mostly what the page looks like, in its pose."""
    rows = [[draw.choice("......?") for x in range(width)] for y in range(height)]
    for box, one, wrong in letters_of(plan, told):
        for j, signs in enumerate(one[3]):
            y = box[2] + j
            if y < height:
                back = math.floor(Fraction((told[0] - plan.upright) * (2 * y - height), 2 * height))
                for i, sign in enumerate(signs):
                    if 0 <= box[0] + i - back < width:
                        rows[y][box[0] + i - back] = sign
    for k in range(draw.choice((0, 0, 1, 2))):
        rows[draw.randrange(height)][draw.randrange(width)] = draw.choice("#.")
    return ["".join(row) for row in rows]


# What is reckoned.

def points_of(box):
    return {(x, y) for x in range(box[0], box[1]) for y in range(box[2], box[3])}


class Reckoning:
    """One page on one scan: its cost, its blanks and letters as sets of points; NotSo if it couldn't be."""

    def __init__(self, plan, rows, told):
        self.plan = plan
        self.width = len(rows[0])
        self.height = len(rows)
        self.looks = {}
        pose = told[0] - plan.upright
        for y, row in enumerate(rows):
            move = math.floor(Fraction(pose * (2 * y - self.height), 2 * self.height))
            for x, sign in enumerate(row):
                self.looks[x + move, y] = sign
        self.blanks = []
        self.letters = []
        need(told[0] <= 2 * plan.upright)
        self.cost = abs(pose) * plan.step + self.bands_cost(told[1])
        self.is_parted()

    def is_parted(self):
        whole = points_of((0, self.width, 0, self.height))
        parts = self.blanks + [points_of(box) for box, one in self.letters]
        assert sum(map(len, parts)) == len(whole) and set().union(*parts) == whole, "not parted"

    def along(self, rule, items, start, end, box_of):
        """What the blanks cost around items (gap, first, end)."""
        need(items)
        need(items[0][0] == 0)
        need(all(0 <= gap < len(rule[1]) for gap, first, last in items[1:]))
        need(all(first < last for gap, first, last in items))
        rooms = [rule[0]] + [rule[1][item[0]] for item in items[1:]] + [rule[2]]
        begins = [start] + [item[2] for item in items]
        ends = [item[1] for item in items] + [end]
        need(all(room[0] <= b - a <= room[1] for room, a, b in zip(rooms, begins, ends)))
        for a, b in zip(begins, ends):
            box = points_of(box_of(a, b))
            ink = sum(self.looks.get(point, "?") == "#" for point in box)
            need(not box or Fraction(ink) <= Fraction(self.plan.density * len(box), 65536) + self.plan.slack)
            self.blanks.append(box)
        return sum(room[3] * abs(b - a - room[2]) for room, a, b in zip(rooms, begins, ends))

    def bands_cost(self, bands):
        total = self.along(
            self.plan.bands, [one[:3] for one in bands], 0, self.height, lambda a, b: (0, self.width, a, b))
        for gap, y0, y1, number, columns in bands:
            one = self.plan.kinds[number]
            total += one[0] + self.along(
                one[2], [item[:3] for item in columns], 0, self.width, lambda a, b: (a, b, y0, y1))
            for column_gap, x0, x1, lines in columns:
                need(x1 - x0 >= one[1])
                total += self.lines_cost(one, lines, (x0, x1, y0, y1))
        return total

    def lines_cost(self, one, lines, box):
        tall = [(gap, row, row + self.plan.faces[k][0]) for gap, row, k, letters in lines]
        total = self.along(one[3], tall, box[2], box[3], lambda a, b: (box[0], box[1], a, b))
        for (gap, y, end), (same, row, k, letters) in zip(tall, lines):
            need(k in one[5])
            height, wrong, glyphs = self.plan.faces[k]
            wide = [(g, x, x + len(glyphs[n][3][0])) for g, x, n in letters]
            total += one[5][k] + self.along(one[4], wide, box[0], box[1], lambda a, b: (a, b, y, end))
            for g, x, n in letters:
                total += glyphs[n][2] + wrong * self.wrong_points(glyphs[n], x, y)
                self.letters.append(((x, x + len(glyphs[n][3][0]), y, end), glyphs[n]))
        return total

    def wrong_points(self, one, x, y):
        pairs = [(sign, self.looks.get((x + i, y + j), "?"))
                 for j, signs in enumerate(one[3]) for i, sign in enumerate(signs)]
        wrong = sum(pair in (("#", "."), (".", "#")) for pair in pairs)
        need(wrong <= one[1])
        return wrong

    def agrees(self, sort, box, number):
        """As the document's longer words tell it."""
        points = points_of(box)
        just = [one for corners, one in self.letters if corners == box and one[0] == number]
        meeting = [one for corners, one in self.letters if points & points_of(corners)]
        if sort == 0:
            inside = points <= points_of((0, self.width, 0, self.height))
            bare = any(points & blank for blank in self.blanks)
            return bool(points) and inside and not bare and len(just) == 1 and len(meeting) == 1
        return not just if sort == 1 else not meeting


def reckoned(plan, rows, told):
    try:
        return Reckoning(plan, rows, told)
    except NotSo:
        return None


def tokens_of(plan, told, watch):
    def gap_token(rule, k, gap):
        return [rule[1][gap][4] - 1] if k and gap < len(rule[1]) and rule[1][gap][4] else []

    row = []
    for b, (gap, y0, y1, number, columns) in enumerate(told[1]):
        one = plan.kinds[number]
        row += gap_token(plan.bands, b, gap)
        for c, (column_gap, x0, x1, lines) in enumerate(columns):
            row += gap_token(one[2], c, column_gap)
            for d, (line_gap, y, face_number, letters) in enumerate(lines):
                row += gap_token(one[3], d, line_gap)
                height, wrong, glyphs = plan.faces[face_number]
                for e, (letter_gap, x, k) in enumerate(letters):
                    row += gap_token(one[4], e, letter_gap)
                    box = [x, x + len(glyphs[k][3][0]), y, y + height]
                    row += [5] if watch == box + [glyphs[k][0]] else []
                    row.append(8 + glyphs[k][0])
    return row


def drawn_box(draw, width, height):
    x0, y0 = draw.randint(0, width), draw.randint(0, height)
    return (x0, x0 + draw.randint(1, 3), y0, y0 + draw.randint(1, 2))


def shaken(draw, told):
    """The page with one thing of it changed."""
    pose, bands = told
    k = draw.randrange(len(bands))
    changed = list(bands[k])
    place = draw.randrange(3)
    changed[place] = max(0, changed[place] + draw.choice((-1, 1)))
    if draw.random() < 0.5 and changed[4]:
        columns = list(changed[4])
        one = list(columns[-1])
        place = draw.randrange(3)
        one[place] = max(0, one[place] + draw.choice((-1, 1)))
        changed = list(bands[k])
        changed[4] = columns[:-1] + [tuple(one)]
    return (pose, bands[:k] + [tuple(changed)] + bands[k + 1:])


class Reckoned(unittest.TestCase):
    def setUp(self):
        self.seen = {"could": 0, "couldn't": 0, "said met": 0, "said not met": 0, "watch met": 0, "stands met": 0}

    def test_many(self):
        for seed in range(1500):
            draw = random.Random(seed)
            plan = Plan(draw)
            width, height = draw.randint(1, 9), draw.randint(1, 7)
            told = drawn_page(draw, plan, width, height)
            rows = drawn_scan(draw, plan, told, width, height)
            pages = [told, shaken(draw, told)]
            for one in pages:
                self.check(draw, plan, rows, one, seed)
        self.assertTrue(all(count > 100 for count in self.seen.values()), self.seen)

    def check(self, draw, plan, rows, told, seed):
        known = reckoned(plan, rows, told)
        self.seen["couldn't" if known is None else "could"] += 1
        spots = [list(box) + [one[0]] for box, one, wrong in letters_of(plan, told)]
        remarks = self.drawn_remarks(draw, len(rows[0]), len(rows), spots)
        watch = draw.choice(spots) if spots and draw.random() < 0.5 else []
        row, numbers = scan(*rows), numbers_of(told)
        calls = [call(OPEN, plan.form()), call(COST, row, [], numbers), call(TOKENS, numbers, watch)]
        calls += [call(number, row, said, numbers) for said in remarks for number in (COULD, COST)]
        answers = run(*calls)
        expected = [[0], [-2] if known is None else [0, known.cost]]
        tokens = tokens_of(plan, told, watch)
        self.seen["watch met"] += 5 in tokens
        expected.append([0, len(tokens)] + tokens)
        for said in remarks:
            met = known is not None and all(
                known.agrees(said[k], tuple(said[k + 1:k + 5]), said[k + 5]) for k in range(0, len(said), 6))
            if known is not None:
                self.seen["said met" if met else "said not met"] += 1
                self.seen["stands met"] += met and said[0] == 0
            expected += [[0, 1], [0, known.cost]] if met else [[0, 0], [-2]]
        self.assertEqual(answers, expected, seed)

    def drawn_remarks(self, draw, width, height, spots):
        remarks = []
        for k in range(4):
            said = []
            for j in range(draw.randint(1, 2)):
                sort = draw.randrange(3)
                spot = list(drawn_box(draw, width, height)) + [draw.randint(1, 3)]
                if spots and draw.random() < 0.5:
                    spot = list(draw.choice(spots))
                if sort == 2:
                    spot[4] = 0
                said += [sort] + spot
            remarks.append(said)
        return remarks


if __name__ == "__main__":
    unittest.main()
