"""Whether a page could be a scan, and what it costs."""

from shoppages.faults import CannotBe
from shoppages.pages import page_spots
from shoppages.said import agrees
from shoppages.sheets import ACROSS, DOWN, Sheet, cut_box


def page_cost(shop, scan, remarks, page):
    """What the page costs; it's refused if it couldn't be that scan with those remarks."""
    if page.pose > 2 * shop.upright or not agrees(remarks, page_spots(page)):
        raise CannotBe()
    pose = page.pose - shop.upright
    sheet = Sheet(shop, scan, pose)
    box = (0, sheet.width, 0, sheet.height)
    cost = shop.pose_cost * abs(pose)
    cost += level_cost(sheet, shop.band_rule, page.bands, box, DOWN)
    return cost + sum([band_cost(sheet, band) for band in page.bands])


def band_cost(sheet, band):
    box = (0, sheet.width, band.first, band.end)
    cost = band.kind.cost
    cost += level_cost(sheet, band.kind.column_rule, band.columns, box, ACROSS)
    return cost + sum([column_cost(sheet, band, column) for column in band.columns])


def column_cost(sheet, band, column):
    if column.end - column.first < band.kind.least_width:
        raise CannotBe()
    box = (column.first, column.end, band.first, band.end)
    cost = level_cost(sheet, band.kind.line_rule, column.lines, box, DOWN)
    return cost + sum([line_cost(sheet, band.kind, column, line) for line in column.lines])


def line_cost(sheet, kind, column, line):
    if line.face_number not in kind.face_costs:
        raise CannotBe()
    box = (column.first, column.end, line.first, line.end)
    cost = kind.face_costs[line.face_number]
    cost += level_cost(sheet, kind.letter_rule, line.letters, box, ACROSS)
    return cost + sum([letter_cost(sheet, line, letter) for letter in line.letters])


def letter_cost(sheet, line, letter):
    cost = sheet.fit_cost(line.face, letter.glyph, letter.first, line.first)
    if cost is None:
        raise CannotBe()
    return cost


def level_cost(sheet, level, items, box, direction):
    """What the blanks cost between items that lie along the box in that direction."""
    blanks = level_blanks(level, items, box[2 * direction], box[2 * direction + 1])
    # All sizes are asked ahead of any point: only then does every blank lie on the scan.
    for room, first, end in blanks:
        if not room.takes(end - first):
            raise CannotBe()
    cost = 0
    for room, first, end in blanks:
        if not sheet.is_blank(cut_box(box, direction, first, end)):
            raise CannotBe()
        cost += room.size_cost(end - first)
    return cost


def level_blanks(level, items, start, end):
    """The lead, the gaps and the trail of a level from start to end: the room, first, end of each."""
    if not items or items[0].gap != 0:
        raise CannotBe()
    blanks = []
    edge = start
    for k, item in enumerate(items):
        if item.first >= item.end:
            raise CannotBe()
        room = level.lead if k == 0 else gap_room(level, item.gap)
        blanks.append((room, edge, item.first))
        edge = item.end
    blanks.append((level.trail, edge, end))
    return blanks


def gap_room(level, gap):
    if gap >= len(level.gaps):
        raise CannotBe()
    return level.gaps[gap]
