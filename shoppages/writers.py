"""Numbers as forms have them."""


def number_form(number, size):
    """The number in that many bytes, the lowest first."""
    return [(number >> (8 * k)) & 255 for k in range(size)]


def numbers_form(numbers, size):
    """The numbers one behind another, each in that many bytes."""
    form = []
    for number in numbers:
        form.extend(number_form(number, size))
    return form
