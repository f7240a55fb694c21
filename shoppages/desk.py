"""The desk: takes calls as numbers, and answers them as numbers."""

from shoppages.drawing import drawn_page
from shoppages.faults import CannotBe, FormFault, NoShop, WrongArgument
from shoppages.leastpage import least_page
from shoppages.pagecost import page_cost
from shoppages.pages import read_page
from shoppages.pagetokens import page_tokens
from shoppages.readers import NumberReader
from shoppages.said import read_said, read_watch
from shoppages.scans import read_scan, scan_form
from shoppages.shops import read_shop, shop_form

OPEN = 1
COULD = 2
COST = 3
TOKENS = 4
DRAW = 5
BEST = 6

# How many whole numbers and how many rows each call has, by its number; 7 is bytes.
CALL_PARTS = {1: (0, 1), 2: (0, 3), 3: (0, 3), 4: (0, 2), 5: (2, 1), 6: (0, 2), 7: (0, 0)}


def answers(calls):
    """For each call, in order: how many numbers are answered, then these."""
    reader = NumberReader(calls)
    desk = Desk()
    answered = []
    while reader.numbers_left() > 0:
        call = reader.take()
        numbers = reader.take_many(CALL_PARTS[call][0])
        rows = read_rows(reader, CALL_PARTS[call][1])
        answered.extend(counted(answer_or_refusal(desk, call, numbers, rows)))
    return answered


def read_rows(reader, count):
    rows = []
    while len(rows) < count:
        rows.append(reader.take_many(reader.take()))
    return rows


def counted(row):
    """The row with how many numbers it has before it."""
    return [len(row)] + row


def answer_or_refusal(desk, call, numbers, rows):
    try:
        return [0] + desk.answer(call, numbers, rows)
    except NoShop:
        return [-9]
    except WrongArgument:
        return [-1]
    except FormFault as fault:
        return [-5, fault.rule, fault.place]
    except CannotBe:
        return [-2]


class Desk:
    """Keeps the shop that's open; None at the beginning."""

    def __init__(self):
        self.shop = None

    def answer(self, call, numbers, rows):
        """What is answered behind the 0; a refusal is raised."""
        if call == OPEN:
            self.shop = read_shop(rows[0])
            return []
        if self.shop is None:
            raise NoShop()
        if call == COULD:
            return [self.tell_could(rows[0], rows[1], rows[2])]
        if call == COST:
            return [self.tell_cost(rows[0], rows[1], rows[2])]
        if call == BEST:
            return self.tell_best(rows[0], rows[1])
        return counted(self.tell_row(call, numbers, rows))

    def tell_row(self, call, numbers, rows):
        """What the calls tell that answer one row."""
        if call == TOKENS:
            return self.tell_tokens(rows[0], rows[1])
        if call == DRAW:
            return self.tell_drawn(numbers[0], numbers[1], rows[0])
        return shop_form(self.shop)

    def tell_could(self, scan_row, said_row, page_row):
        try:
            self.tell_cost(scan_row, said_row, page_row)
        except CannotBe:
            return 0
        return 1

    def tell_cost(self, scan_row, said_row, page_row):
        # The scan comes last: a wrong argument (-1) is told ahead of a form's fault (-5).
        remarks = read_said(said_row)
        page = read_page(self.shop, page_row)
        scan = read_scan(scan_row)
        return page_cost(self.shop, scan, remarks, page)

    def tell_best(self, scan_row, said_row):
        # Here too -1 is told ahead of -5.
        remarks = read_said(said_row)
        scan = read_scan(scan_row)
        best = least_page(self.shop, scan, remarks)
        return [best[0]] + counted(best[1])

    def tell_tokens(self, page_row, watch_row):
        watch = read_watch(watch_row)
        page = read_page(self.shop, page_row)
        return page_tokens(self.shop, page, watch)

    def tell_drawn(self, width, height, page_row):
        page = read_page(self.shop, page_row)
        return scan_form(drawn_page(width, height, page))
