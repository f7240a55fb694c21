"""The refusals, one class for each."""


class NoShop(Exception):
    """A call that needs a shop came before one was taken (-9)."""


class WrongArgument(Exception):
    """What's said, a watch or a page isn't one, or a scan can't have that size (-1)."""


class FormFault(Exception):
    """Bytes that break a rule of their form at a place (-5)."""

    def __init__(self, rule, place):
        self.rule = rule
        self.place = place


class CannotBe(Exception):
    """The page couldn't be the scan, or no page could (-2)."""
