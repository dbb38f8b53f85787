"""Cards and decks: how they're told as numbers, and what their columns and fields say."""

COLUMNS = 80
MOST_HOLES = 4095
MOST_CARDS = 1000
CODES = 64

# Each figure by its single hole.
FIGURES = {4: 0, 8: 1, 16: 2, 32: 3, 64: 4, 128: 5, 256: 6, 512: 7, 1024: 8, 2048: 9}
MINUS_ROW = 1

# No sum of amounts may come to this size, 10^16.
SUM_LIMIT = 10000000000000000

NO_DECK = -8


def read_card(told):
    """The holes of a card's columns, all eighty (None: the numbers are no card's)."""
    card = [0] * COLUMNS
    before = -1
    for at in range(0, len(told), 2):
        column = told[at]
        holes = told[at + 1]
        if not before < column < COLUMNS or not 1 <= holes <= MOST_HOLES:
            return None
        card[column] = holes
        before = column
    return card


def read_deck(told):
    """The cards that the numbers tell (None: they're no deck's)."""
    cards = []
    at = 0
    while at < len(told):
        end = at + 1 + 2 * told[at]
        if not at < end <= len(told) or len(cards) == MOST_CARDS:
            return None
        card = read_card(told[at + 1:end])
        if card is None:
            return None
        cards.append(card)
        at = end
    return cards


def tell_card(card):
    """A card as numbers: each column that has holes, and its holes."""
    told = []
    for column, holes in enumerate(card):
        if holes:
            told.append(column)
            told.append(holes)
    return told


def tell_deck(cards):
    """A deck as numbers: before each card how many of its columns have holes."""
    told = []
    for card in cards:
        numbers = tell_card(card)
        told.append(len(numbers) // 2)
        told.extend(numbers)
    return told


def has_row(holes, row):
    """Whether a row is among a column's holes."""
    return (holes >> row) & 1 == 1


def top_rank(holes):
    """A number that rises with the greatest punched row: 0 for a column without holes."""
    return holes.bit_length()


def field_of(card, column, length):
    """The holes of a field's columns."""
    return card[column:column + length]


def row_holes(row):
    """The holes of a column in which a row alone is punched."""
    return 1 << row


def figure_holes(figure):
    """The holes of a figure."""
    return row_holes(figure + 2)


def code_holes(number):
    """The holes of a number from 0 to 63 by the code."""
    zone = number // 16
    value = number % 16
    holes = 0
    if zone > 0:
        holes = row_holes(zone - 1)
    if value > 9:
        return holes | figure_holes(8) | figure_holes(value - 8)
    if value > 0:
        return holes | figure_holes(value)
    return holes


def figures_value(field):
    """The number that a field's columns say, behind those without holes (None: they say none)."""
    value = 0
    begun = False
    for holes in field[:-1]:
        if holes in FIGURES:
            value = value * 10 + FIGURES[holes]
            begun = True
        elif begun or holes:
            return None
    # The last column has a figure in any case.
    if field[-1] not in FIGURES:
        return None
    return value * 10 + FIGURES[field[-1]]


def amount_of(card, column, length):
    """The amount in a field (None: it has none)."""
    field = field_of(card, column, length)
    if not has_row(field[-1], MINUS_ROW):
        return figures_value(field)
    field[-1] -= row_holes(MINUS_ROW)
    value = figures_value(field)
    # There's no nought below 0.
    if not value:
        return None
    return -value
