"""Shops: what they may print and what it costs, and their form."""

from shoppages.faces import MOST_COST, face_form, read_face
from shoppages.faults import FormFault
from shoppages.readers import ByteReader
from shoppages.scans import MOST_ALONG
from shoppages.writers import number_form, numbers_form

SHOP_MARK = (83, 72, 79, 80)
HEAD_SIZE = 32
MOST_DENSITY = 65536
MOST_POSE = 31
MOST_RATE = 15
MOST_GAPS = 8
MOST_FACES = 16
MOST_KINDS = 16


class Room:
    """The rule of a lead, a trail or a kind of gap; its token is None where it has none."""

    def __init__(self, smallest, largest, natural, rate):
        self.smallest = smallest
        self.largest = largest
        self.natural = natural
        self.rate = rate
        self.token = None

    def takes(self, size):
        """Whether a blank of that size is within the rule."""
        return self.smallest <= size <= self.largest

    def size_cost(self, size):
        """What a blank of that size costs."""
        return self.rate * abs(size - self.natural)


class Level:
    """How items may lie along a level."""

    def __init__(self, lead, gaps, trail):
        self.lead = lead
        self.gaps = gaps
        self.trail = trail


class Kind:
    """A kind of band; face_costs has for each face that a line may have what it costs."""

    def __init__(self, cost, least_width, column_rule, line_rule, letter_rule, face_costs):
        self.cost = cost
        self.least_width = least_width
        self.column_rule = column_rule
        self.line_rule = line_rule
        self.letter_rule = letter_rule
        self.face_costs = face_costs


class Shop:
    """All that a shop's form tells; upright is P, the number of the upright pose."""

    def __init__(self, density, slack, upright, pose_cost, band_rule, kinds, faces):
        self.density = density
        self.slack = slack
        self.upright = upright
        self.pose_cost = pose_cost
        self.band_rule = band_rule
        self.kinds = kinds
        self.faces = faces


def read_shop(row):
    """The shop that the bytes tell."""
    reader = framed_reader(row)
    density = reader.take_bounded(4, 0, MOST_DENSITY, 2)
    slack = reader.take_bounded(4, 0, MOST_DENSITY, 2)
    upright = reader.take_bounded(4, 0, MOST_POSE, 2)
    pose_cost = reader.take_bounded(4, 0, MOST_COST, 2)
    face_count = reader.take_bounded(4, 1, MOST_FACES, 2)
    kind_count = reader.take_bounded(4, 1, MOST_KINDS, 2)
    band_rule = read_level(reader, (4,))
    kinds = []
    while len(kinds) < kind_count:
        kinds.append(read_kind(reader, face_count))
    faces = []
    while len(faces) < face_count:
        faces.append(read_shop_face(reader))
    reader.take_end(7)
    return Shop(density, slack, upright, pose_cost, band_rule, kinds, faces)


def framed_reader(row):
    """A reader behind the mark and the length, which hold of the bytes as a whole."""
    if len(row) < HEAD_SIZE or tuple(row[:4]) != SHOP_MARK:
        raise FormFault(1, 0)
    reader = ByteReader(row, 1)
    reader.take_bytes(4)
    reader.take_bounded(4, len(row), len(row), 1)
    return reader


def read_level(reader, tokens):
    """A level whose gaps may have one of those tokens, or none."""
    lead = read_room(reader)
    count = reader.take_bounded(4, 0, MOST_GAPS, 4)
    gaps = []
    while len(gaps) < count:
        gap = read_room(reader)
        gap.token = read_token(reader, tokens)
        gaps.append(gap)
    trail = read_room(reader)
    return Level(lead, gaps, trail)


def read_room(reader):
    smallest = reader.take_bounded(4, 0, MOST_ALONG, 3)
    largest = reader.take_bounded(4, smallest, MOST_ALONG, 3)
    natural = reader.take_bounded(4, 0, MOST_ALONG, 3)
    rate = reader.take_bounded(4, 0, MOST_RATE, 3)
    return Room(smallest, largest, natural, rate)


def read_token(reader, tokens):
    begin = reader.place
    number = reader.take_number(4)
    if number == 0:
        return None
    if number - 1 not in tokens:
        raise FormFault(4, begin)
    return number - 1


def read_kind(reader, face_count):
    cost = reader.take_bounded(4, 0, MOST_COST, 5)
    least_width = reader.take_bounded(4, 1, MOST_ALONG, 5)
    column_rule = read_level(reader, (3,))
    line_rule = read_level(reader, (1, 2))
    letter_rule = read_level(reader, (0,))
    face_costs = read_face_costs(reader, face_count)
    return Kind(cost, least_width, column_rule, line_rule, letter_rule, face_costs)


def read_face_costs(reader, face_count):
    count = reader.take_bounded(4, 1, MOST_FACES, 5)
    face_costs = {}
    lowest = 0
    while len(face_costs) < count:
        face = reader.take_bounded(4, lowest, face_count - 1, 5)
        face_costs[face] = reader.take_bounded(4, 0, MOST_COST, 5)
        lowest = face + 1
    return face_costs


def read_shop_face(reader):
    begin = reader.place
    size = reader.take_number(4)
    if size > reader.bytes_left():
        raise FormFault(6, begin)
    begin = reader.place
    form = reader.take_bytes(size)
    try:
        return read_face(form)
    except FormFault as fault:
        raise FormFault(64 + fault.rule, begin + fault.place) from None


def shop_form(shop):
    """The bytes that tell the shop."""
    head = (shop.density, shop.slack, shop.upright, shop.pose_cost, len(shop.faces), len(shop.kinds))
    form = numbers_form(head, 4) + level_form(shop.band_rule)
    for kind in shop.kinds:
        form.extend(kind_form(kind))
    for face in shop.faces:
        inner = face_form(face)
        form.extend(number_form(len(inner), 4) + inner)
    # The length counts the mark's four bytes and its own.
    return list(SHOP_MARK) + number_form(len(form) + 8, 4) + form


def kind_form(kind):
    form = numbers_form((kind.cost, kind.least_width), 4)
    for level in (kind.column_rule, kind.line_rule, kind.letter_rule):
        form.extend(level_form(level))
    form.extend(number_form(len(kind.face_costs), 4))
    for face, cost in kind.face_costs.items():
        form.extend(numbers_form((face, cost), 4))
    return form


def level_form(level):
    form = room_form(level.lead) + number_form(len(level.gaps), 4)
    for gap in level.gaps:
        token = 0 if gap.token is None else gap.token + 1
        form.extend(room_form(gap) + number_form(token, 4))
    return form + room_form(level.trail)


def room_form(room):
    return numbers_form((room.smallest, room.largest, room.natural, room.rate), 4)
