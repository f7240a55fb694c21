"""The least row of items along a level, the first of those that cost so little.

Items, rows and rests are told as (cost, numbers). An item's numbers are those behind its gap; a row's and a
rest's are those of their items, with the 0 that ends the level. No such numbers begin with all of another's, so
that the first of all rows has in each place the first of all that may stand there.
"""

from shoppages.sheets import cut_box


class Spacing:
    """A level's rule by sizes from 0 to a longest: the least (cost, number of its kind) of each blank, or None."""

    def __init__(self, level, longest):
        self.leads = blank_choices([level.lead], longest)
        self.gaps = blank_choices(level.gaps, longest)
        self.trails = blank_choices([level.trail], longest)


def blank_choices(rooms, longest):
    choices = []
    for size in range(longest + 1):
        mays = [(room.size_cost(size), k) for k, room in enumerate(rooms) if room.takes(size)]
        choices.append(min(mays, default=None))
    return choices


class Track:
    """A spacing along a box that begins at 0 in that direction; blanks has the boxes with points that may be blank."""

    def __init__(self, spacing, blanks, box, direction):
        self.spacing = spacing
        self.blanks = blanks
        self.box = box
        self.direction = direction
        self.length = box[2 * direction + 1]

    def choose_blank(self, choices, first, end):
        """That of the choices for a blank from first to end; None if there may be none."""
        if first == end or cut_box(self.box, self.direction, first, end) in self.blanks:
            return choices[end - first]
        return None


def least_row(track, items):
    """The least row all along the track; None if there's none.

    Items are the least of all that may lie there, by their first and end.
    """
    rests = least_rests(track, items, track.length)
    return min(rows_behind(track, track.spacing.leads, 0, items, rests), default=None)


def least_rows(track, items):
    """The least row between each start and stop on the track, where there's one."""
    rows = {}
    for stop in range(1, track.length + 1):
        rests = least_rests(track, items, stop)
        for start in range(stop):
            found = rows_behind(track, track.spacing.leads, start, items, rests)
            if found:
                rows[(start, stop)] = min(found)
    return rows


def least_rests(track, items, stop):
    """For each end of an item the least of what may follow it up to the stop, where there's anything."""
    rests = {}
    for edge in range(stop, 0, -1):
        found = rows_behind(track, track.spacing.gaps, edge, items, rests)
        trail = track.choose_blank(track.spacing.trails, edge, stop)
        if trail is not None:
            found.append((trail[0], [0]))
        if found:
            rests[edge] = min(found)
    return rests


def rows_behind(track, choices, edge, items, rests):
    """The rows whose first item comes behind the edge and one of the blanks, each item with its least rest."""
    found = []
    for first in range(edge, track.length):
        blank = track.choose_blank(choices, edge, first)
        if blank is None:
            continue
        for end in range(first + 1, track.length + 1):
            if end in rests and (first, end) in items:
                item = items[(first, end)]
                rest = rests[end]
                found.append((blank[0] + item[0] + rest[0], [1, blank[1]] + item[1] + rest[1]))
    return found
