"""Faces: their glyphs, and their form."""

from shoppages.faults import FormFault
from shoppages.readers import ByteReader
from shoppages.scans import INK, PAPER
from shoppages.writers import number_form, numbers_form

FREE = 2

FACE_MARK = (83, 72, 70, 49)
MOST_COST = 4095
MOST_LETTER = 4095
MOST_BUDGET = 4096
MOST_GLYPHS = 4096
MOST_SIDE = 64


class Glyph:
    """A letter's picture: for each point of its rows INK or PAPER, as it must be, or FREE."""

    def __init__(self, letter, width, budget, cost, points):
        self.letter = letter
        self.width = width
        self.budget = budget
        self.cost = cost
        self.points = points


class Face:
    """Glyphs of one height."""

    def __init__(self, height, wrong_cost, glyphs):
        self.height = height
        self.wrong_cost = wrong_cost
        self.glyphs = glyphs


def read_face(row):
    """The face that the bytes tell."""
    reader = ByteReader(row, 5)
    reader.take_mark(FACE_MARK, 1)
    height = reader.take_bounded(1, 1, MOST_SIDE, 2)
    wrong_cost = reader.take_bounded(2, 0, MOST_COST, 2)
    count = reader.take_bounded(2, 0, MOST_GLYPHS, 2)
    glyphs = read_glyphs(reader, height, count)
    reader.take_end(7)
    return Face(height, wrong_cost, glyphs)


def read_glyphs(reader, height, count):
    glyphs = []
    rank_before = None
    while len(glyphs) < count:
        begin = reader.place
        glyph = read_glyph(reader, height)
        rank = (glyph.letter, glyph.width, reader.row[begin + 3:reader.place])
        if rank_before is not None and rank <= rank_before:
            raise FormFault(6, begin)
        rank_before = rank
        glyphs.append(glyph)
    return glyphs


def read_glyph(reader, height):
    letter = reader.take_bounded(2, 0, MOST_LETTER, 3)
    width = reader.take_bounded(1, 1, MOST_SIDE, 3)
    budget = reader.take_bounded(2, 0, MOST_BUDGET, 3)
    cost = reader.take_bounded(2, 0, MOST_COST, 3)
    ink_plane = read_plane(reader, width, height)
    begin = reader.place
    paper_plane = read_plane(reader, width, height)
    points = []
    for y, ink in enumerate(ink_plane):
        paper = paper_plane[y]
        if ink & paper:
            raise FormFault(4, begin + y * row_size(width))
        points.append(row_points(ink, paper, width))
    return Glyph(letter, width, budget, cost, points)


def row_size(width):
    """How many bytes a row of a plane has."""
    return (width + 7) // 8


def read_plane(reader, width, height):
    """A plane's rows as numbers: as the lowest byte comes first, bit x tells of column x."""
    plane = []
    while len(plane) < height:
        bits = reader.take_number(row_size(width))
        if bits >> width:
            raise FormFault(4, reader.place - 1)
        plane.append(bits)
    return plane


def row_points(ink, paper, width):
    points = []
    for x in range(width):
        if (ink >> x) & 1:
            points.append(INK)
        elif (paper >> x) & 1:
            points.append(PAPER)
        else:
            points.append(FREE)
    return points


def face_form(face):
    """The bytes that tell the face."""
    form = list(FACE_MARK) + [face.height] + numbers_form((face.wrong_cost, len(face.glyphs)), 2)
    for glyph in face.glyphs:
        form.extend(glyph_form(glyph))
    return form


def glyph_form(glyph):
    form = number_form(glyph.letter, 2) + [glyph.width] + numbers_form((glyph.budget, glyph.cost), 2)
    return form + plane_form(glyph, INK) + plane_form(glyph, PAPER)


def plane_form(glyph, need):
    """The plane that tells which points must be so."""
    form = []
    for points in glyph.points:
        bits = sum([1 << x for x, point in enumerate(points) if point == need])
        form.extend(number_form(bits, row_size(glyph.width)))
    return form
