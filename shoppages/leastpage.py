"""The least of all pages that could be a scan."""

from shoppages.faults import CannotBe
from shoppages.leastrow import Spacing, Track, least_row, least_rows
from shoppages.limits import Limits
from shoppages.sheets import ACROSS, DOWN, Sheet


def least_page(shop, scan, remarks):
    """The least cost of all pages that could be, and the numbers of the first that costs so little."""
    limits = Limits(remarks, scan.width, scan.height)
    found = []
    for pose in range(2 * shop.upright + 1):
        steps = pose - shop.upright
        row = Search(shop, Sheet(shop, scan, steps), limits).least_bands()
        if row is not None:
            found.append((shop.pose_cost * abs(steps) + row[0], [pose] + row[1]))
    if not found:
        raise CannotBe()
    return min(found)


class Search:
    """Looks for what's least on one sheet, from the letters up; told as in leastrow."""

    def __init__(self, shop, sheet, limits):
        self.shop = shop
        self.sheet = sheet
        self.limits = limits
        self.blanks = blank_boxes(sheet, limits)

    def make_track(self, spacing, box, direction):
        return Track(spacing, self.blanks, box, direction)

    def least_bands(self):
        """The page's least row of bands; None if there's none."""
        letters = [self.least_letters(face) for face in self.shop.faces]
        bands = {}
        for number, kind in enumerate(self.shop.kinds):
            columns = self.least_columns(kind, self.least_lines(kind, letters))
            spacing = Spacing(kind.column_rule, self.sheet.width)
            for first, end in columns:
                track = self.make_track(spacing, (0, self.sheet.width, first, end), ACROSS)
                row = least_row(track, columns[(first, end)])
                if row is not None:
                    keep_least(bands, (first, end), (kind.cost + row[0], [first, end, number] + row[1]))
        spacing = Spacing(self.shop.band_rule, self.sheet.height)
        return least_row(self.make_track(spacing, (0, self.sheet.width, 0, self.sheet.height), DOWN), bands)

    def least_columns(self, kind, lines):
        """For each first and end of a band's rows the least columns, by their first and end."""
        spacing = Spacing(kind.line_rule, self.sheet.height)
        columns = {}
        for first, end in lines:
            if end - first < kind.least_width:
                continue
            track = self.make_track(spacing, (first, end, 0, self.sheet.height), DOWN)
            for rows_span, row in least_rows(track, lines[(first, end)]).items():
                column = (row[0], [first, end] + row[1])
                keep_least(columns.setdefault(rows_span, {}), (first, end), column)
        return columns

    def least_lines(self, kind, letters):
        """For each first and end of a column the least lines, by their first and end row."""
        spacing = Spacing(kind.letter_rule, self.sheet.width)
        lines = {}
        for number, cost in kind.face_costs.items():
            height = self.shop.faces[number].height
            for y, items in enumerate(letters[number]):
                track = self.make_track(spacing, (0, self.sheet.width, y, y + height), ACROSS)
                for column_span, row in least_rows(track, items).items():
                    line = (cost + row[0], [y, number] + row[1])
                    keep_least(lines.setdefault(column_span, {}), (y, y + height), line)
        return lines

    def least_letters(self, face):
        """For each row on which a line of the face may lie the least letters, by their first and end."""
        ranks = glyph_ranks(face)
        letters = []
        for y in range(self.sheet.height - face.height + 1):
            items = {}
            for width in ranks:
                for x in range(self.sheet.width - width + 1):
                    rank = self.least_rank(face, ranks[width], (x, x + width, y, y + face.height))
                    if rank is not None:
                        items[(x, x + width)] = (rank[0], [x, rank[1]])
            letters.append(items)
        return letters

    def least_rank(self, face, ranks, box):
        """The least (cost, number) of the glyphs of those ranks that may stand just in the box, or None."""
        if not self.limits.allow_box(box):
            return None
        least = None
        for rank in ranks:
            # No glyph costs less than its rank tells, so from here on there's none that is less.
            if least is not None and rank > least:
                break
            glyph = face.glyphs[rank[1]]
            if self.limits.allow_letter(box, glyph.letter):
                cost = self.sheet.fit_cost(face, glyph, box[0], box[2])
                if cost is not None and (least is None or (cost, rank[1]) < least):
                    least = (cost, rank[1])
        return least


def glyph_ranks(face):
    """For each width the (cost, number) of the face's glyphs, rising."""
    ranks = {}
    for cost, number in sorted([(glyph.cost, number) for number, glyph in enumerate(face.glyphs)]):
        ranks.setdefault(face.glyphs[number].width, []).append((cost, number))
    return ranks


def blank_boxes(sheet, limits):
    """All boxes with points in the sheet that may be blank."""
    boxes = {}
    for x0, x1 in spans(sheet.width):
        for y0, y1 in spans(sheet.height):
            box = (x0, x1, y0, y1)
            if sheet.is_blank(box) and limits.allow_blank(box):
                boxes[box] = True
    return boxes


def spans(length):
    """Each first and end, with something between them."""
    found = []
    for first in range(length):
        found.extend([(first, end) for end in range(first + 1, length + 1)])
    return found


def keep_least(items, span, item):
    """Puts the item into its span's place, unless a lesser one is there."""
    items[span] = min(item, items.get(span, item))
