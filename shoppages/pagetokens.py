"""A page's tokens."""

from shoppages.pages import letter_spot

WATCH_TOKEN = 5
FIRST_LETTER_TOKEN = 8


def page_tokens(shop, page, watch):
    """The tokens in order; watch is a box and a letter, or None."""
    tokens = []
    for k, band in enumerate(page.bands):
        tokens.extend(gap_tokens(shop.band_rule, k, band))
        tokens.extend(band_tokens(band, watch))
    return tokens


def band_tokens(band, watch):
    tokens = []
    for k, column in enumerate(band.columns):
        tokens.extend(gap_tokens(band.kind.column_rule, k, column))
        tokens.extend(column_tokens(band.kind, column, watch))
    return tokens


def column_tokens(kind, column, watch):
    tokens = []
    for k, line in enumerate(column.lines):
        tokens.extend(gap_tokens(kind.line_rule, k, line))
        tokens.extend(line_tokens(kind, line, watch))
    return tokens


def line_tokens(kind, line, watch):
    tokens = []
    for k, letter in enumerate(line.letters):
        tokens.extend(gap_tokens(kind.letter_rule, k, letter))
        if letter_spot(line, letter) == watch:
            tokens.append(WATCH_TOKEN)
        tokens.append(FIRST_LETTER_TOKEN + letter.glyph.letter)
    return tokens


def gap_tokens(level, k, item):
    """The token of the gap before a level's item k, if there's one."""
    if k == 0 or item.gap >= len(level.gaps):
        return []
    token = level.gaps[item.gap].token
    return [] if token is None else [token]
