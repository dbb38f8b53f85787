"""Which cards a report means, and in which order they stand."""

from tabulreports.cards import field_of, has_row, top_rank
from tabulreports.parts import keys_of, wheres_of


def is_meant(card, wheres):
    """Whether all wheres hold of a card."""
    for where in wheres:
        punched = has_row(card[where.numbers["C"]], where.numbers["R"])
        if punched != (where.ending == "yes"):
            return False
    return True


def key_field(card, key):
    """The holes of a key's field."""
    return field_of(card, key.numbers["C"], key.numbers["N"])


def key_ranks(card, key):
    """What decides between cards by a key, column by column."""
    field = key_field(card, key)
    if key.ending == "top":
        return [top_rank(holes) for holes in field]
    return field


def card_ranks(card, keys):
    """What decides between cards by all keys, the first key's columns first."""
    ranks = []
    for key in keys:
        ranks.extend(key_ranks(card, key))
    return ranks


def meant_in_order(parts, cards):
    """The cards that a report means, in its order."""
    wheres = wheres_of(parts)
    keys = keys_of(parts)
    meant = [card for card in cards if is_meant(card, wheres)]
    # Alike cards stay as they lay: sorted never turns them round.
    return sorted(meant, key=lambda card: card_ranks(card, keys))
