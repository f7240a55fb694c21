"""Pages as numbers: what they name, and where it lies."""

from shoppages.faults import WrongArgument
from shoppages.readers import NumberReader


class Page:
    """A pose and the bands, from the top."""

    def __init__(self, pose, bands):
        self.pose = pose
        self.bands = bands


class Band:
    """Rows first to end, of a kind."""

    def __init__(self, gap, first, end, kind, columns):
        self.gap = gap
        self.first = first
        self.end = end
        self.kind = kind
        self.columns = columns


class Column:
    """Columns first to end of a band."""

    def __init__(self, gap, first, end, lines):
        self.gap = gap
        self.first = first
        self.end = end
        self.lines = lines


class Line:
    """Rows first to end of a column, as high as its face."""

    def __init__(self, gap, first, face_number, face, letters):
        self.gap = gap
        self.first = first
        self.end = first + face.height
        self.face_number = face_number
        self.face = face
        self.letters = letters


class Letter:
    """Columns first to end of a line, as wide as its glyph."""

    def __init__(self, gap, first, glyph):
        self.gap = gap
        self.first = first
        self.end = first + glyph.width
        self.glyph = glyph


def read_page(shop, numbers):
    """The page that the numbers say, of that shop's kinds, faces and glyphs."""
    reader = NumberReader(numbers)
    pose = reader.take()
    bands = []
    while item_follows(reader):
        bands.append(read_band(shop, reader))
    if reader.numbers_left() > 0:
        raise WrongArgument()
    return Page(pose, bands)


def item_follows(reader):
    """Passes the number that tells whether another item comes or the level ends."""
    return reader.take_below(2) == 1


def read_band(shop, reader):
    gap = reader.take()
    first = reader.take()
    end = reader.take()
    kind = shop.kinds[reader.take_below(len(shop.kinds))]
    columns = []
    while item_follows(reader):
        columns.append(read_column(shop, reader))
    return Band(gap, first, end, kind, columns)


def read_column(shop, reader):
    gap = reader.take()
    first = reader.take()
    end = reader.take()
    lines = []
    while item_follows(reader):
        lines.append(read_line(shop, reader))
    return Column(gap, first, end, lines)


def read_line(shop, reader):
    gap = reader.take()
    first = reader.take()
    face_number = reader.take_below(len(shop.faces))
    face = shop.faces[face_number]
    letters = []
    while item_follows(reader):
        letters.append(read_letter(face, reader))
    return Line(gap, first, face_number, face, letters)


def read_letter(face, reader):
    gap = reader.take()
    first = reader.take()
    glyph = face.glyphs[reader.take_below(len(face.glyphs))]
    return Letter(gap, first, glyph)


def letter_spot(line, letter):
    """The letter's box and its number, as what's said and a watch tell them too."""
    return ((letter.first, letter.end, line.first, line.end), letter.glyph.letter)


def page_letters(page):
    """All the page's letters in their order, each with its line."""
    letters = []
    for band in page.bands:
        for column in band.columns:
            for line in column.lines:
                letters.extend([(line, letter) for letter in line.letters])
    return letters


def page_spots(page):
    """The spots of all the page's letters, in their order."""
    return [letter_spot(line, letter) for line, letter in page_letters(page)]
