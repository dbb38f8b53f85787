"""What a report means of a deck: its paper, line by line, or that it can't be met.

Of k keys the groups of level 1 to k are told by where they end. The row of all cards is told
as if it were the one group of level k + 1: no card ends it, and no key is of its level.
"""

from tabulreports.cards import SUM_LIMIT, amount_of
from tabulreports.lines import blank_line, put_upon, show_number
from tabulreports.ordering import key_field
from tabulreports.parts import keys_of, listing_of, seens_of, totals_of

NOT_MET = -5


def level_between(before, card, keys):
    """The greatest level whose group ends between two cards (0: none does)."""
    level = len(keys)
    for key in keys:
        if key_field(before, key) != key_field(card, key):
            return level
        level -= 1
    return 0


def ended_levels(cards, keys):
    """For each card the greatest level whose group ends before it (0: none does)."""
    levels = []
    for at, card in enumerate(cards):
        if at == 0:
            levels.append(0)
        else:
            levels.append(level_between(cards[at - 1], card, keys))
    return levels


def group_start(levels, level, end):
    """Where the group of a level begins that ends before the card at end."""
    start = end - 1
    while start > 0 and levels[start] < level:
        start -= 1
    return start


def sum_amount(card, part):
    """The amount of a sum's field (None: there's none)."""
    return amount_of(card, part.numbers["C"], part.numbers["N"])


def stays_within(amounts, levels, level):
    """Whether the sums over the first cards of a level's groups are small enough, all of them."""
    total = 0
    for amount, ended in zip(amounts, levels):
        if ended >= level:
            total = 0
        total += amount
        if abs(total) >= SUM_LIMIT:
            return False
    return True


def can_be_summed(part, cards, levels, most_level):
    """Whether a sum has an amount of each card and stays within size at each level."""
    amounts = [sum_amount(card, part) for card in cards]
    if None in amounts:
        return False
    return all([stays_within(amounts, levels, level) for level in range(1, most_level + 1)])


def can_be_met(parts, cards, levels):
    """Whether a report can be met of its meant cards."""
    most_level = len(keys_of(parts)) + 1
    for part in totals_of(parts):
        if part.word == "sum" and not can_be_summed(part, cards, levels, most_level):
            return False
    return True


def total_over(cards, part):
    """A total over some cards."""
    if part.word == "count":
        return len(cards)
    return sum([sum_amount(card, part) for card in cards])


def put_field(line, part, card, signs):
    """Puts the field of a key or a seen upon a line."""
    numbers = part.numbers
    put_upon(line, numbers["P"], signs.show_field(card, numbers["C"], numbers["N"]))


def card_line(parts, card, signs):
    """A card's line."""
    line = blank_line()
    for part in seens_of(parts):
        put_field(line, part, card, signs)
    return line


def total_line(parts, level, cards, signs):
    """The line of the totals over a group of a level."""
    line = blank_line()
    keys = keys_of(parts)
    for key in keys[:len(keys) + 1 - level]:
        put_field(line, key, cards[-1], signs)
    for part in totals_of(parts):
        shown = show_number(total_over(cards, part), part.numbers["W"])
        put_upon(line, part.numbers["P"], shown)
    return line


def group_lines(parts, cards, levels, end, signs):
    """The lines of the groups that end before the card at end, or behind the last one."""
    most = len(keys_of(parts))
    if end < len(cards):
        most = levels[end]
    lines = []
    for level in range(1, most + 1):
        group = cards[group_start(levels, level, end):end]
        lines.append(total_line(parts, level, group, signs))
    return lines


def has_line(listing, at, levels):
    """Whether the card at a place has a line."""
    if listing == "first":
        return at == 0 or levels[at] > 0
    return listing == "all"


def meant_paper(parts, cards, signs):
    """The paper's lines for the meant cards in their order (None: the report can't be met)."""
    levels = ended_levels(cards, keys_of(parts))
    if not can_be_met(parts, cards, levels):
        return None
    lines = []
    for at, card in enumerate(cards):
        lines.extend(group_lines(parts, cards, levels, at, signs))
        if has_line(listing_of(parts), at, levels):
            lines.append(card_line(parts, card, signs))
    if cards:
        lines.extend(group_lines(parts, cards, levels, len(cards), signs))
    if totals_of(parts):
        lines.append(total_line(parts, len(keys_of(parts)) + 1, cards, signs))
    return lines
