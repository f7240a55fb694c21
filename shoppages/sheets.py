"""Sheets: scans as they lie in a pose, and what may lie on them."""

from shoppages.faces import FREE
from shoppages.scans import INK, UNCLEAR, posed_rows

ACROSS = 0
DOWN = 1

DENSITY_POINTS = 65536


class Sheet:
    """A scan in its pose, and how many specks the shop leaves to a blank."""

    def __init__(self, shop, scan, pose):
        self.width = scan.width
        self.height = scan.height
        self.rows = posed_rows(scan, pose)
        self.density = shop.density
        self.slack = shop.slack

    def is_blank(self, box):
        specks = sum([row[box[0]:box[1]].count(INK) for row in self.rows[box[2]:box[3]]])
        points = (box[1] - box[0]) * (box[3] - box[2])
        return DENSITY_POINTS * specks <= self.density * points + DENSITY_POINTS * self.slack

    def count_wrong(self, glyph, x, y):
        """How many of the glyph's points are wrong where it's put at (x, y)."""
        wrong = 0
        for j, needs in enumerate(glyph.points):
            wrong += count_against(needs, self.rows[y + j][x:x + glyph.width])
        return wrong

    def fit_cost(self, face, glyph, x, y):
        """What the face's glyph costs where it's put at (x, y); None if it doesn't fit there."""
        wrong = self.count_wrong(glyph, x, y)
        if wrong > glyph.budget:
            return None
        return glyph.cost + face.wrong_cost * wrong


def count_against(needs, points):
    """How many points aren't as they must be; free and unclear go with anything."""
    return len([1 for need, point in zip(needs, points) if need != point and need != FREE and point != UNCLEAR])


def cut_box(box, direction, first, end):
    """The part of the box from first to end in that direction."""
    if direction == ACROSS:
        return (first, end, box[2], box[3])
    return (box[0], box[1], first, end)
