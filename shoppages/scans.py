"""Scans: their form, and how they look in a pose."""

from shoppages.faults import FormFault
from shoppages.readers import ByteReader
from shoppages.writers import numbers_form

PAPER = 0
INK = 1
UNCLEAR = 2

SCAN_MARK = (83, 72, 84, 49)
MOST_ALONG = 8192
MOST_POINTS = 16777216
LONGEST_RUN = 64
SAME_ROW = 255


class Scan:
    """Rows of points, from the top; a row is never changed, so equal rows may be one list."""

    def __init__(self, width, height, rows):
        self.width = width
        self.height = height
        self.rows = rows


def scan_may_be(width, height):
    """Whether a scan may have that many columns and rows."""
    return 1 <= width <= MOST_ALONG and 1 <= height <= MOST_ALONG and width * height <= MOST_POINTS


def read_scan(row):
    """The scan that the bytes tell."""
    reader = ByteReader(row, 5)
    reader.take_mark(SCAN_MARK, 1)
    width = reader.take_bounded(4, 1, MOST_ALONG, 2)
    height = reader.take_bounded(4, 1, min(MOST_ALONG, MOST_POINTS // width), 2)
    rows = []
    above = None
    while len(rows) < height:
        above = read_row(reader, width, above)
        rows.append(above)
    reader.take_end(7)
    return Scan(width, height, rows)


def read_row(reader, width, above):
    """The next row's points; above are those of the row before, None at the first."""
    begin = reader.place
    if above is not None and reader.row[begin:begin + 1] == [SAME_ROW]:
        reader.take_bytes(1)
        return above
    points = read_runs(reader, width)
    if reader.row[begin:reader.place] != row_form(points, above):
        raise FormFault(6, begin)
    return points


def read_runs(reader, width):
    points = []
    while len(points) < width:
        begin = reader.place
        run = reader.take_bounded(1, 0, LONGEST_RUN * 3 - 1, 3)
        size = run % LONGEST_RUN + 1
        if size > width - len(points):
            raise FormFault(4, begin)
        points.extend([run // LONGEST_RUN] * size)
    return points


def row_form(points, above):
    """The one form of a row below that other one (None: it's the first)."""
    if points == above:
        return [SAME_ROW]
    form = []
    size = 0
    for x, point in enumerate(points):
        size += 1
        if size == LONGEST_RUN or points[x + 1:x + 2] != [point]:
            form.append(LONGEST_RUN * point + size - 1)
            size = 0
    return form


def scan_form(scan):
    """The bytes that tell the scan."""
    form = list(SCAN_MARK) + numbers_form((scan.width, scan.height), 4)
    above = None
    for points in scan.rows:
        form.extend(row_form(points, above))
        above = points
    return form


def posed_rows(scan, pose):
    """The scan's rows as they lie in that pose."""
    rows = []
    for y, row in enumerate(scan.rows):
        shift = (pose * (2 * y - scan.height)) // (2 * scan.height)
        rows.append(moved_row(row, shift))
    return rows


def moved_row(row, shift):
    """The row moved that far to the right; what comes from outside is unclear."""
    width = len(row)
    return [row[x - shift] if 0 <= x - shift < width else UNCLEAR for x in range(width)]
