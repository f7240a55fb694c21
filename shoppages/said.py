"""What a person says of a scan, and what's to be watched: boxes and letters."""

from shoppages.faces import MOST_LETTER
from shoppages.faults import WrongArgument
from shoppages.readers import NumberReader
from shoppages.scans import MOST_ALONG

STANDS = 0
NOT = 1
BARE = 2


class Remark:
    """One thing that's said: which claim, and of which box and letter."""

    def __init__(self, claim, spot):
        self.claim = claim
        self.spot = spot


def read_said(numbers):
    """The remarks that the numbers tell, six for each."""
    reader = NumberReader(numbers)
    remarks = []
    while reader.numbers_left() > 0:
        claim = reader.take_below(BARE + 1)
        most_letter = 0 if claim == BARE else MOST_LETTER
        remarks.append(Remark(claim, read_spot(reader, most_letter)))
    return remarks


def read_watch(numbers):
    """The watched box and letter; None if nothing is watched."""
    if not numbers:
        return None
    reader = NumberReader(numbers)
    watch = read_spot(reader, MOST_LETTER)
    if reader.numbers_left() > 0:
        raise WrongArgument()
    return watch


def read_spot(reader, most_letter):
    """A box with points and a letter, in the form that pages.letter_spot has."""
    box = tuple(reader.take_many(4))
    if box[0] >= box[1] or box[2] >= box[3]:
        raise WrongArgument()
    if box[1] > MOST_ALONG or box[3] > MOST_ALONG:
        raise WrongArgument()
    return (box, reader.take_below(most_letter + 1))


def agrees(remarks, spots):
    """Whether all that's said is so of a page with its letters at those spots.

    Blanks and letters part a page that could be, so that a letter which stands
    just in a box leaves no other one and no blank to meet it.
    """
    return all([remark_holds(remark, spots) for remark in remarks])


def remark_holds(remark, spots):
    if remark.claim == STANDS:
        return remark.spot in spots
    if remark.claim == NOT:
        return remark.spot not in spots
    return not any([boxes_meet(remark.spot[0], spot[0]) for spot in spots])


def boxes_meet(one, other):
    """Whether two boxes that both have points have one in common."""
    across = one[0] < other[1] and other[0] < one[1]
    down = one[2] < other[3] and other[2] < one[3]
    return across and down
