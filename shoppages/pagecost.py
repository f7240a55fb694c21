"""Whether a page could be a scan, and what it costs."""

from shoppages.faults import CannotBe
from shoppages.pages import page_spots
from shoppages.said import agrees
from shoppages.scans import INK, PAPER, posed_rows

ACROSS = 0
DOWN = 1

DENSITY_POINTS = 65536


class Sheet:
    """A scan in its pose, and how many specks the shop leaves to a blank."""

    def __init__(self, shop, scan, pose):
        self.width = scan.width
        self.height = scan.height
        self.rows = posed_rows(scan, pose)
        self.density = shop.density
        self.slack = shop.slack

    def is_blank(self, box):
        specks = sum([row[box[0]:box[1]].count(INK) for row in self.rows[box[2]:box[3]]])
        points = (box[1] - box[0]) * (box[3] - box[2])
        return DENSITY_POINTS * specks <= self.density * points + DENSITY_POINTS * self.slack

    def count_wrong(self, glyph, x, y):
        """How many of the glyph's points are wrong where it's put at (x, y)."""
        wrong = 0
        for j, needs in enumerate(glyph.points):
            points = self.rows[y + j][x:x + glyph.width]
            wrong += sum([1 for need, point in zip(needs, points) if is_wrong(need, point)])
        return wrong


def is_wrong(need, point):
    """Free and unclear are neither ink nor paper, so never wrong."""
    return (need == INK and point == PAPER) or (need == PAPER and point == INK)


def page_cost(shop, scan, remarks, page):
    """What the page costs; it's refused if it couldn't be that scan with those remarks."""
    if page.pose > 2 * shop.upright or not agrees(remarks, page_spots(page)):
        raise CannotBe()
    pose = page.pose - shop.upright
    sheet = Sheet(shop, scan, pose)
    box = (0, sheet.width, 0, sheet.height)
    cost = shop.pose_cost * abs(pose)
    cost += level_cost(sheet, shop.band_rule, page.bands, box, DOWN)
    return cost + sum([band_cost(sheet, band) for band in page.bands])


def band_cost(sheet, band):
    box = (0, sheet.width, band.first, band.end)
    cost = band.kind.cost
    cost += level_cost(sheet, band.kind.column_rule, band.columns, box, ACROSS)
    return cost + sum([column_cost(sheet, band, column) for column in band.columns])


def column_cost(sheet, band, column):
    if column.end - column.first < band.kind.least_width:
        raise CannotBe()
    box = (column.first, column.end, band.first, band.end)
    cost = level_cost(sheet, band.kind.line_rule, column.lines, box, DOWN)
    return cost + sum([line_cost(sheet, band.kind, column, line) for line in column.lines])


def line_cost(sheet, kind, column, line):
    if line.face_number not in kind.face_costs:
        raise CannotBe()
    box = (column.first, column.end, line.first, line.end)
    cost = kind.face_costs[line.face_number]
    cost += level_cost(sheet, kind.letter_rule, line.letters, box, ACROSS)
    return cost + sum([letter_cost(sheet, line, letter) for letter in line.letters])


def letter_cost(sheet, line, letter):
    wrong = sheet.count_wrong(letter.glyph, letter.first, line.first)
    if wrong > letter.glyph.budget:
        raise CannotBe()
    return letter.glyph.cost + line.face.wrong_cost * wrong


def level_cost(sheet, level, items, box, direction):
    """What the blanks cost between items that lie along the box in that direction."""
    blanks = level_blanks(level, items, box[2 * direction], box[2 * direction + 1])
    # All sizes are asked ahead of any point: only then does every blank lie on the scan.
    for room, first, end in blanks:
        if end - first < room.smallest or end - first > room.largest:
            raise CannotBe()
    cost = 0
    for room, first, end in blanks:
        if not sheet.is_blank(cut_box(box, direction, first, end)):
            raise CannotBe()
        cost += room.rate * abs(end - first - room.natural)
    return cost


def level_blanks(level, items, start, end):
    """The lead, the gaps and the trail of a level from start to end: the room, first, end of each."""
    if not items or items[0].gap != 0:
        raise CannotBe()
    blanks = []
    edge = start
    for k, item in enumerate(items):
        if item.first >= item.end:
            raise CannotBe()
        room = level.lead if k == 0 else gap_room(level, item.gap)
        blanks.append((room, edge, item.first))
        edge = item.end
    blanks.append((level.trail, edge, end))
    return blanks


def gap_room(level, gap):
    if gap >= len(level.gaps):
        raise CannotBe()
    return level.gaps[gap]


def cut_box(box, direction, first, end):
    """The part of the box from first to end in that direction."""
    if direction == ACROSS:
        return (first, end, box[2], box[3])
    return (box[0], box[1], first, end)
