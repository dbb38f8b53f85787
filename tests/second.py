"""The document's words told a second time, by other means than the package's.

A card is a dict from columns to holes here; a report is the list of its lines, without line ends, and has no fault.
"""


def words_of(lines, *firsts):
    """The lines that begin with one of the words: for each its words, numbers as numbers."""
    split = [line.split() for line in lines]
    return [[int(word) if word.isdigit() else word for word in words] for words in split if words[0] in firsts]


def rows_of(holes):
    return [row for row in range(12) if holes // 2 ** row % 2]


def meant_cards(lines, cards):
    meant = []
    for card in cards:
        wheres = words_of(lines, "where")
        if all((row in rows_of(card.get(column, 0))) == (how == "yes") for word, column, row, how in wheres):
            meant.append(card)
    return meant


def comes_before(lines, one, other):
    """Below 0 if one comes before other by the keys, above 0 if behind it, 0 if they're alike."""
    for word, column, length, at, place, by, how in words_of(lines, "key"):
        for offset in range(length):
            pair = [card.get(column + offset, 0) for card in (one, other)]
            if how == "top":
                pair = [max([-1] + rows_of(holes)) for holes in pair]
            if pair[0] != pair[1]:
                return -1 if pair[0] < pair[1] else 1
    return 0


def ordered_cards(lines, cards):
    """The meant cards, each put where as many as come before it leave it."""
    meant = meant_cards(lines, cards)
    ordered = [None] * len(meant)
    for index, card in enumerate(meant):
        before = 0
        for other_index, other in enumerate(meant):
            held = comes_before(lines, other, card)
            before += held < 0 or (held == 0 and other_index < index)
        ordered[before] = card
    return ordered
