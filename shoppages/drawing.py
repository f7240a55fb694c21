"""Pages as they look."""

from shoppages.faces import FREE
from shoppages.faults import WrongArgument
from shoppages.pages import page_letters
from shoppages.scans import PAPER, UNCLEAR, Scan, scan_may_be


def drawn_page(width, height, page):
    """The scan that has the page's letters as they must be, and paper elsewhere."""
    if not scan_may_be(width, height):
        raise WrongArgument()
    rows = [[PAPER] * width for y in range(height)]
    # From the last to the first: where letters overlap, it's the first that is seen.
    for line, letter in reversed(page_letters(page)):
        draw_letter(rows, letter, line.first)
    return Scan(width, height, rows)


def draw_letter(rows, letter, y):
    """Puts the letter's points on the rows, as far as they lie there."""
    for j, needs in enumerate(letter.glyph.points):
        if y + j < len(rows):
            draw_points(rows[y + j], letter.first, needs)


def draw_points(row, x, needs):
    for i, need in enumerate(needs):
        if x + i < len(row):
            row[x + i] = UNCLEAR if need == FREE else need
