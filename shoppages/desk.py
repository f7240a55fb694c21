"""The desk: takes calls as numbers, and answers them as numbers."""

from shoppages.faults import CannotBe, FormFault, NoShop, WrongArgument
from shoppages.pagecost import page_cost
from shoppages.pages import read_page
from shoppages.pagetokens import page_tokens
from shoppages.readers import NumberReader
from shoppages.said import read_said, read_watch
from shoppages.scans import read_scan
from shoppages.shops import read_shop

OPEN = 1
COULD = 2
COST = 3

# How many rows each call has, by its number; 4 is tokens.
ROW_COUNTS = {1: 1, 2: 3, 3: 3, 4: 2}


def answers(calls):
    """For each call, in order: how many numbers are answered, then these."""
    reader = NumberReader(calls)
    desk = Desk()
    answered = []
    while reader.numbers_left() > 0:
        call = reader.take()
        rows = read_rows(reader, ROW_COUNTS[call])
        answer = answer_or_refusal(desk, call, rows)
        answered.append(len(answer))
        answered.extend(answer)
    return answered


def read_rows(reader, count):
    rows = []
    while len(rows) < count:
        rows.append(reader.take_many(reader.take()))
    return rows


def answer_or_refusal(desk, call, rows):
    try:
        return [0] + desk.answer(call, rows)
    except NoShop:
        return [-9]
    except WrongArgument:
        return [-1]
    except FormFault as fault:
        return [-5, fault.rule, fault.place]
    except CannotBe:
        return [-2]


class Desk:
    """Keeps the shop that's open; None at the beginning."""

    def __init__(self):
        self.shop = None

    def answer(self, call, rows):
        """What is answered behind the 0; a refusal is raised."""
        if call == OPEN:
            self.shop = read_shop(rows[0])
            return []
        if self.shop is None:
            raise NoShop()
        if call == COULD:
            return [self.tell_could(rows[0], rows[1], rows[2])]
        if call == COST:
            return [self.tell_cost(rows[0], rows[1], rows[2])]
        tokens = self.tell_tokens(rows[0], rows[1])
        return [len(tokens)] + tokens

    def tell_could(self, scan_row, said_row, page_row):
        try:
            self.tell_cost(scan_row, said_row, page_row)
        except CannotBe:
            return 0
        return 1

    def tell_cost(self, scan_row, said_row, page_row):
        # The scan comes last: a wrong argument (-1) is told ahead of a form's fault (-5).
        remarks = read_said(said_row)
        page = read_page(self.shop, page_row)
        scan = read_scan(scan_row)
        return page_cost(self.shop, scan, remarks, page)

    def tell_tokens(self, page_row, watch_row):
        watch = read_watch(watch_row)
        page = read_page(self.shop, page_row)
        return page_tokens(self.shop, page, watch)
