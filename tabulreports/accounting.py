"""The accounting machine, as far as a plan's setup uses it: no summary cards, no panel."""

from tabulreports.cards import SUM_LIMIT, amount_of, field_of
from tabulreports.lines import blank_line, put_upon, show_number
from tabulreports.plans import ADD_ONE, CARD_LINE, LAST_LEVEL, SHOW_FIELD

CONTROL_LEVELS = 3
LIST_AT = 6
LIST_ALL = 1
LIST_FIRST = 2


class Machine:
    """A machine at work by a setup: its counters, its last card (None: no card was before), its lines."""

    def __init__(self, setup):
        self.setup = setup
        self.counts = [0 for counter in setup.counters]
        self.last_card = None
        self.lines = []

    def ended_level(self, card):
        """The greatest level whose control field isn't as in the card before (0: none)."""
        if self.last_card is None:
            return 0
        head = self.setup.head
        for level in range(CONTROL_LEVELS, 0, -1):
            column = head[2 * level - 2]
            length = head[2 * level - 1]
            # A level without a field has no columns in which two cards could differ.
            if field_of(card, column, length) != field_of(self.last_card, column, length):
                return level
        return 0

    def print_line(self, number, card):
        """Puts a line's things upon a new line, fields of the card."""
        printed = blank_line()
        for line, what, first, length, place, width in self.setup.things:
            if line == number and what == SHOW_FIELD:
                put_upon(printed, place, self.setup.signs.show_field(card, first, length))
            elif line == number:
                put_upon(printed, place, show_number(self.counts[first], width))
        self.lines.append(printed)

    def make_total(self, level):
        """A total: its line, if something is shown there, and its counters are 0 again."""
        if level in [thing[0] for thing in self.setup.things]:
            self.print_line(level, self.last_card)
        for at, counter in enumerate(self.setup.counters):
            if counter[0] == level:
                self.counts[at] = 0

    def count_card(self, card):
        """Changes the counters by a card; whether nothing goes wrong with it."""
        for at, counter in enumerate(self.setup.counters):
            added = 1
            if counter[1] != ADD_ONE:
                added = amount_of(card, counter[2], counter[3])
            if added is None or abs(self.counts[at] + added) >= SUM_LIMIT:
                return False
            self.counts[at] += added
        return True

    def take_card(self, card):
        """All that a card brings about; whether nothing goes wrong with it."""
        ended = self.ended_level(card)
        for level in range(1, ended + 1):
            self.make_total(level)
        if not self.count_card(card):
            return False
        listing = self.setup.head[LIST_AT]
        first = ended > 0 or self.last_card is None
        if listing == LIST_ALL or (listing == LIST_FIRST and first):
            self.print_line(CARD_LINE, card)
        self.last_card = card
        return True

    def make_end(self):
        """The totals behind the last card."""
        if self.last_card is not None:
            for level in range(1, CONTROL_LEVELS + 1):
                self.make_total(level)
        self.make_total(LAST_LEVEL)


def account_cards(setup, cards):
    """The lines that a setup makes of some cards (None: something goes wrong with one)."""
    machine = Machine(setup)
    for card in cards:
        if not machine.take_card(card):
            return None
    machine.make_end()
    return machine.lines
