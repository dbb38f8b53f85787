"""Cards and decks: how they're told as numbers, and what is punched in a column."""

COLUMNS = 80
MOST_HOLES = 4095
MOST_CARDS = 1000

NO_DECK = -8


def read_card(told):
    """The holes of a card's columns, all eighty (None: the numbers are no card's)."""
    card = [0] * COLUMNS
    before = -1
    for at in range(0, len(told), 2):
        column = told[at]
        holes = told[at + 1]
        if not before < column < COLUMNS or not 1 <= holes <= MOST_HOLES:
            return None
        card[column] = holes
        before = column
    return card


def read_deck(told):
    """The cards that the numbers tell (None: they're no deck's)."""
    cards = []
    at = 0
    while at < len(told):
        end = at + 1 + 2 * told[at]
        if not at < end <= len(told) or len(cards) == MOST_CARDS:
            return None
        card = read_card(told[at + 1:end])
        if card is None:
            return None
        cards.append(card)
        at = end
    return cards


def tell_card(card):
    """A card as numbers: each column that has holes, and its holes."""
    told = []
    for column, holes in enumerate(card):
        if holes:
            told.append(column)
            told.append(holes)
    return told


def tell_deck(cards):
    """A deck as numbers: before each card how many of its columns have holes."""
    told = []
    for card in cards:
        numbers = tell_card(card)
        told.append(len(numbers) // 2)
        told.extend(numbers)
    return told


def has_row(holes, row):
    """Whether a row is among a column's holes."""
    return (holes >> row) & 1 == 1


def top_rank(holes):
    """A number that rises with the greatest punched row: 0 for a column without holes."""
    return holes.bit_length()


def field_of(card, column, length):
    """The holes of a field's columns."""
    return card[column:column + length]
