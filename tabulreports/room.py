"""The room, and the lines of a plan's job done in it."""

from tabulreports.accounting import account_cards
from tabulreports.cards import top_rank
from tabulreports.panels import is_chosen

MOST_PAPER = 256
POCKETS = 13

NOTHING_WRONG = 0
WRONG_CARD = 7
TOO_MUCH_PAPER = 9


class Room:
    """Trays of cards, panels and setups on their shelves, and the paper's lines."""

    def __init__(self, trays, panels, setups):
        self.trays = trays
        self.panels = panels
        self.setups = setups
        self.paper = []

    def look_into(self, tray):
        """The cards in a tray."""
        return self.trays.get(tray, [])

    def take_out(self, tray):
        """The cards in a tray, which is empty then."""
        cards = self.look_into(tray)
        self.trays[tray] = []
        return cards

    def put_behind(self, tray, cards):
        """Puts cards behind a tray's row."""
        self.trays[tray] = self.look_into(tray) + cards


def room_of(plan, cards):
    """A room apart for a plan, with the cards in its first tray."""
    return Room({"A": cards}, {0: plan.panel, 1: []}, {0: plan.setup})


def do_choose(room, line):
    """Parts a tray's cards by a panel; what's wrong with the line."""
    panel = room.panels[line[2]]
    cards = room.take_out(line[1])
    chosen = [is_chosen(panel, card) for card in cards]
    room.put_behind(line[4], [card for card, is_in in zip(cards, chosen) if not is_in])
    room.put_behind(line[5], [card for card, is_in in zip(cards, chosen) if is_in])
    return NOTHING_WRONG


def do_pass(room, line):
    """A tray's cards through the sorter; what's wrong with the line."""
    column = line[2]
    looked_at = line[3]
    # In the order in which they're stacked: first the one for cards without a looked-at hole.
    pockets = [[] for pocket in range(POCKETS)]
    for card in room.take_out(line[1]):
        pockets[top_rank(card[column] & looked_at)].append(card)
    for cards in pockets:
        room.put_behind(line[5], cards)
    return NOTHING_WRONG


def do_account(room, line):
    """Accounts a tray's cards by a setup, onto the paper; what's wrong with the line."""
    lines = account_cards(room.setups[line[2]], room.look_into(line[1]))
    if lines is None:
        return WRONG_CARD
    if len(room.paper) + len(lines) > MOST_PAPER:
        return TOO_MUCH_PAPER
    room.paper.extend(lines)
    return NOTHING_WRONG


def do_line(room, line):
    """Does a job's line, or nothing of it if it goes wrong; what's wrong with it."""
    if line[0] == "choose":
        return do_choose(room, line)
    if line[0] == "pass":
        return do_pass(room, line)
    return do_account(room, line)


def run_job(room, job):
    """Runs a job: how many of its lines are done, and what's wrong with the next one."""
    for done, line in enumerate(job):
        wrong = do_line(room, line)
        if wrong != NOTHING_WRONG:
            return [done, wrong]
    return [len(job), NOTHING_WRONG]
