"""Builds what the tests hand in, on its own, and takes the answers apart."""

from shoppages.desk import answers

OPEN, COULD, COST, TOKENS, DRAW, BEST, BYTES = 1, 2, 3, 4, 5, 6, 7
SIGNS = {".": 0, "#": 1, "?": 2}


def u16(number):
    return [number % 256, number // 256]


def u32(number):
    return [number >> shift & 255 for shift in (0, 8, 16, 24)]


def patched(row, place, numbers):
    """The row with those numbers from that place on."""
    return row[:place] + list(numbers) + row[place + len(numbers):]


# Scans: rows of signs, "." paper, "#" ink, "?" unclear.

def scan(*rows):
    form = [83, 72, 84, 49] + u32(len(rows[0])) + u32(len(rows))
    above = None
    for row in rows:
        form += [255] if row == above else runs(row)
        above = row
    return form


def runs(row):
    form = []
    while row:
        size = 1
        while size < 64 and row[size:size + 1] == row[0]:
            size += 1
        form.append(64 * SIGNS[row[0]] + size - 1)
        row = row[size:]
    return form


# Faces: a glyph's rows of signs, "#" must be ink, "." must be paper, "?" free.

def plane(rows, sign):
    form = []
    for row in rows:
        for begin in range(0, len(row), 8):
            form.append(sum(1 << i for i, s in enumerate(row[begin:begin + 8]) if s == sign))
    return form


def glyph(letter, *rows, budget=0, cost=0):
    head = u16(letter) + [len(rows[0])] + u16(budget) + u16(cost)
    return head + plane(rows, "#") + plane(rows, ".")


def face(height, *glyphs, wrong=0):
    return [83, 72, 70, 49, height] + u16(wrong) + u16(len(glyphs)) + sum(glyphs, [])


# Shops.

ANY = (0, 8192, 0, 0)
NONE = (0, 0, 0, 0)


def level(lead=ANY, gaps=((0, 8192, 0, 0, 0),), trail=ANY):
    rooms = list(lead) + [len(gaps)] + [n for gap in gaps for n in gap] + list(trail)
    return sum(map(u32, rooms), [])


def kind(cost=0, least=1, columns=None, lines=None, letters=None, faces=((0, 0),)):
    form = u32(cost) + u32(least)
    for rule in (columns, lines, letters):
        form += level() if rule is None else rule
    return form + u32(len(faces)) + sum([u32(n) for pair in faces for n in pair], [])


def shop(faces, kinds=None, bands=None, density=0, slack=0, upright=0, pose_cost=0):
    kinds = [kind()] if kinds is None else kinds
    form = [n for number in (density, slack, upright, pose_cost, len(faces), len(kinds))
            for n in u32(number)]
    form += level() if bands is None else bands
    form += sum(kinds, [])
    for one in faces:
        form += u32(len(one)) + one
    return sized([83, 72, 79, 80] + u32(0) + form)


def sized(form):
    """The form with its length told as it is."""
    return patched(form, 4, u32(len(form)))


# Pages.

def page(pose, *bands):
    return [pose] + sum(bands, []) + [0]


def band(gap, first, end, kind_number, *columns):
    return [1, gap, first, end, kind_number] + sum(columns, []) + [0]


def column(gap, first, end, *lines):
    return [1, gap, first, end] + sum(lines, []) + [0]


def line(gap, row, face_number, *letters):
    return [1, gap, row, face_number] + sum(letters, []) + [0]


def letter(gap, at, glyph_number):
    return [1, gap, at, glyph_number]


def one_line(width, height, *letters, pose=0, row=0, face_number=0):
    """A page of one band, column and line, over all the scan."""
    inner = line(0, row, face_number, *letters)
    return page(pose, band(0, 0, height, 0, column(0, 0, width, inner)))


# Calls.

def call(number, *rows):
    return [number] + [n for row in rows for n in [len(row)] + list(row)]


def draw_call(width, height, page_row):
    return [DRAW, width, height, len(page_row)] + list(page_row)


def run(*calls):
    """Each call's answer as a list of its own."""
    handed = sum(calls, [])
    kept = list(handed)
    told = answers(handed)
    assert handed == kept, "what was handed in was changed"
    assert all(type(n) is int for n in told), "an answer that isn't whole numbers"
    taken = []
    while told:
        size = told[0]
        taken.append(told[1:1 + size])
        assert len(taken[-1]) == size, "an answer shorter than it says"
        told = told[1 + size:]
    assert len(taken) == len(calls), "not one answer for each call"
    return taken


def asked(shop_row, number, *rows):
    """The answer of one call on that shop."""
    return answered(shop_row, call(number, *rows))


def answered(shop_row, one_call):
    taken = run(call(OPEN, shop_row), one_call)
    assert taken[0] == [0], "the shop wasn't taken"
    return taken[1]


def could(shop_row, scan_row, page_row, said=()):
    return asked(shop_row, COULD, scan_row, said, page_row)


def cost(shop_row, scan_row, page_row, said=()):
    return asked(shop_row, COST, scan_row, said, page_row)


def tokens(shop_row, page_row, watch=()):
    return asked(shop_row, TOKENS, page_row, watch)


def drawn(shop_row, width, height, page_row):
    return answered(shop_row, draw_call(width, height, page_row))


def best(shop_row, scan_row, said=()):
    return asked(shop_row, BEST, scan_row, said)


def best_told(cost_told, page_row):
    """What best answers with that cost and page."""
    return [0, cost_told, len(page_row)] + list(page_row)
