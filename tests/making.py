"""What the tests make texts, cards and decks with."""

RUN = [
    "where 0 0 yes",
    "key 0 1 at 0 by holes",
    "sum 1 3 at 10 8",
    "count at 20 4",
    "see 0 4 at 0",
    "list all",
]

# What the numbers 0 to 63 stand for, so that punched texts can be read.
SIGNS = " 123456789#@'=\"?&ABCDEFGHI.)[<+!-JKLMNOPQR$*];_~0/STUVWXYZ,(|>:^"


def text_of(*lines):
    return list("".join(line + "\n" for line in lines).encode("ascii"))


def holes_of(sign):
    """The holes of the number that a sign stands for."""
    zone, figure = divmod(SIGNS.index(sign), 16)
    rows = [zone - 1] if zone else []
    if figure > 9:
        rows += [8 + 2, figure - 8 + 2]
    elif figure:
        rows += [figure + 2]
    return sum(2 ** row for row in rows)


def card_of(*pieces):
    """A card as a dict, from (column, text) and (column, holes) pieces; later ones come upon earlier ones."""
    card = {}
    for column, what in pieces:
        if isinstance(what, int):
            card[column] = card.get(column, 0) | what
        else:
            for offset, sign in enumerate(what):
                card[column + offset] = card.get(column + offset, 0) | holes_of(sign)
    return {column: holes for column, holes in sorted(card.items()) if holes}


def deck_of(cards):
    """The numbers that tell a deck of cards made by card_of."""
    numbers = []
    for card in cards:
        numbers.append(len(card))
        for column in sorted(card):
            numbers += [column, card[column]]
    return numbers


B_070 = card_of((0, "B070"))
A_100 = card_of((0, "A100"))
FIVE_999 = card_of((0, "5999"))
A_005_MINUS = card_of((0, "A005"), (3, 2))
RUN_CARDS = [B_070, A_100, FIVE_999, A_005_MINUS]
RUN_ORDER = [A_100, A_005_MINUS, B_070]


class Watched(list):
    """A list that can't be changed."""

    def refuse(self, *given, **named):
        raise AssertionError("what was handed in is changed")

    append = clear = extend = insert = pop = remove = reverse = sort = refuse
    __setitem__ = __delitem__ = __iadd__ = __imul__ = refuse
