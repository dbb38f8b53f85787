"""The paper's lines: what is put upon them, and by which signs."""

from tabulreports.cards import CODES, code_holes, field_of

PLACES = 132
BLANK = 32
MOST_BYTE = 255

NO_SIGNS = -2


class Signs:
    """What a column's holes are shown as: by a legend, or as strange where they're no number's."""

    def __init__(self, strange, legend):
        self.strange = strange
        self.by_holes = {}
        for number, byte in enumerate(legend):
            self.by_holes[code_holes(number)] = byte

    def show_field(self, card, column, length):
        """The bytes that a field is shown as."""
        return [self.by_holes.get(holes, self.strange) for holes in field_of(card, column, length)]


def is_byte(number):
    """Whether a number is a byte."""
    return 0 <= number <= MOST_BYTE


def is_legend(legend):
    """Whether a row of numbers is a legend."""
    return len(legend) == CODES and len(set(legend)) == CODES and all([is_byte(number) for number in legend])


def read_signs(strange, legend):
    """The signs by a legend and a strange byte (None: they're no legend, no byte)."""
    if not is_legend(legend) or not is_byte(strange):
        return None
    return Signs(strange, legend)


def show_number(number, width):
    """The bytes that a number is shown as, in so many places."""
    sign = " "
    if number < 0:
        sign = "-"
    shown = str(abs(number)) + sign
    if len(shown) > width:
        shown = "*" * width
    return [ord(letter) for letter in shown.rjust(width)]


def blank_line():
    """A line upon which nothing is put yet."""
    return [BLANK] * PLACES


def put_upon(line, place, shown):
    """Puts bytes upon a line from a place on, over what stands there."""
    for offset, byte in enumerate(shown):
        line[place + offset] = byte
