"""A plan as it's told, run by the appendices' words: its texts and numbers are read, nothing of the package is asked.

A card is a dict from columns to holes here.
"""

from making import SIGNS, holes_of
from second import amount, field_thing, laid


def goes_into(wires, hub, card):
    """What goes into a hub that takes, followed back along its wire."""
    if hub not in wires:
        return 0
    words = wires[hub].split()
    word, number = words[0], words[1]
    if word == "read":
        return card.get(int(number), 0)
    if word == "send":
        return holes_of(SIGNS[int(number)])
    if word == "hole":
        return goes_into(wires, "look " + number, card) & 2 ** int(words[2])
    if word == "chosen":
        way = "other " if goes_into(wires, "by " + number, card) else "plain "
        return goes_into(wires, way + number, card)
    raise AssertionError(wires[hub])


def wires_of(text):
    wires = {}
    for line in text.splitlines():
        sends, takes = line.split(" > ")
        if takes in wires:
            raise AssertionError("two wires to " + takes)
        wires[takes] = sends
    return wires


def number_text(number, width):
    text = "%d%s" % (abs(number), "-" if number < 0 else " ")
    return text.rjust(width) if len(text) <= width else "*" * width


class Wrong(Exception):
    pass


class Accounting:
    def __init__(self, head, counters, things, legend):
        self.head, self.legend = head, legend
        self.counters = [counters[at:at + 6] for at in range(0, len(counters), 6)]
        self.things = [things[at:at + 6] for at in range(0, len(things), 6)]
        self.values = [0] * len(self.counters)
        self.last = None
        self.lines = []

    def line(self, number, card):
        shown = []
        for line, what, a, n, at, w in self.things:
            if line == number and what == 0:
                shown.append(field_thing(["", a, n, "at", at], card, self.legend, self.head[8]))
            elif line == number:
                shown.append((at, number_text(self.values[a], w)))
        self.lines.append(laid(shown))

    def total(self, level):
        if any(thing[0] == level for thing in self.things):
            self.line(level, self.last)
        self.values = [0 if counter[0] == level else value for counter, value in zip(self.counters, self.values)]

    def card(self, card):
        changed = 0
        if self.last is not None:
            for level in (1, 2, 3):
                c, n = self.head[2 * level - 2:2 * level]
                if any(card.get(column, 0) != self.last.get(column, 0) for column in range(c, c + n)):
                    changed = level
        for level in range(1, changed + 1):
            self.total(level)
        for index, (level, how, c, n, when, hub) in enumerate(self.counters):
            more = 1 if how == 2 else amount(card, c, n)
            if more is None or abs(self.values[index] + more) >= 10 ** 16:
                raise Wrong
            self.values[index] += more
        if self.head[6] == 1 or (self.head[6] == 2 and (changed >= 1 or self.last is None)):
            self.line(0, card)
        self.last = card

    def end(self):
        if self.last is not None:
            for level in (1, 2, 3):
                self.total(level)
        self.total(4)


def run(panel, head, counters, things, job, legend, cards):
    """How many of the job's lines are done, what's wrong with the next one, the paper's lines."""
    trays = {"A": list(cards), "B": [], "C": [], "D": []}
    paper = []
    wires = wires_of(panel)
    lines = job.splitlines()
    for done, line in enumerate(lines):
        words = line.split()
        if words[0] == "choose":
            came, trays[words[1]] = trays[words[1]], []
            for card in came:
                trays[words[5] if goes_into(wires, "to 0", card) else words[4]].append(card)
        elif words[0] == "pass":
            came, trays[words[1]] = trays[words[1]], []
            for pocket in [12] + list(range(12)):
                for card in came:
                    looked = [row for row in range(12) if card.get(int(words[2]), 0) & int(words[3]) & 2 ** row]
                    if (looked or [12])[-1] == pocket:
                        trays[words[5]].append(card)
        else:
            machine = Accounting(head, counters, things, legend)
            try:
                for card in trays[words[1]]:
                    machine.card(card)
            except Wrong:
                return done, 7, paper
            machine.end()
            if len(machine.lines) > 256:
                return done, 9, paper
            paper += machine.lines
    return len(lines), 0, paper
