"""What's said of a scan, as it binds each blank and each letter on its own."""

from shoppages.faults import CannotBe
from shoppages.said import BARE, NOT, STANDS, boxes_meet


class Limits:
    """Which blanks and letters what's said leaves to a scan of that width and height.

    Blanks and letters part a page: if each of them keeps to these limits, all that's
    said is so, a letter that's to stand in a box being all that's left to cover it.
    """

    def __init__(self, remarks, width, height):
        self.standing = standing_letters(remarks, width, height)
        self.barred = dict([(remark.spot, True) for remark in remarks if remark.claim == NOT])
        self.bare = bare_boxes(remarks, width, height)

    def allow_blank(self, box):
        return not meets_any(box, self.standing)

    def allow_box(self, box):
        """Whether any letter may stand just in the box."""
        if meets_any(box, self.bare):
            return False
        return box in self.standing or not meets_any(box, self.standing)

    def allow_letter(self, box, letter):
        """Whether that letter may, in a box where any may."""
        return self.standing.get(box, letter) == letter and (box, letter) not in self.barred


def standing_letters(remarks, width, height):
    """For each box in which a letter is said to stand, which; refused if no page has them all."""
    standing = {}
    for box, letter in [remark.spot for remark in remarks if remark.claim == STANDS]:
        if standing.get(box) == letter:
            continue
        if box[1] > width or box[3] > height or meets_any(box, standing):
            raise CannotBe()
        standing[box] = letter
    return standing


def bare_boxes(remarks, width, height):
    """The boxes that are said to be bare, as far as they lie on the scan."""
    boxes = {}
    for box in [remark.spot[0] for remark in remarks if remark.claim == BARE]:
        if box[0] < width and box[2] < height:
            boxes[(box[0], min(box[1], width), box[2], min(box[3], height))] = True
    return boxes


def meets_any(box, boxes):
    return any([boxes_meet(box, other) for other in boxes])
