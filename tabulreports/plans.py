"""A report's plan: the panel, the setup and the job that bring its paper.

A wire is two hubs, what sends and what takes; a hub is a row of its word and its numbers. A job's
line is a row of its words and numbers. So both are written by putting blanks between them.
"""

from tabulreports.cards import row_holes
from tabulreports.faults import report_passes
from tabulreports.forms import LINE_END
from tabulreports.parts import keys_of, listing_of, seens_of, totals_of, wheres_of
from tabulreports.rows import join_rows

# The wheres' answers are passed on through these boxes, one behind another.
FIRST_BOX = 16
ROWS = 12
ALL_ROWS = 4095

CONTROL_NUMBERS = 6
LISTINGS = {"none": 0, "all": 1, "first": 2}
NO_PUNCH = 0

CARD_LINE = 0
LAST_LEVEL = 4

ADD_AMOUNT = 0
ADD_ONE = 2

SHOW_FIELD = 0
SHOW_COUNTER = 1


class Setup:
    """A setup without sums: its head, signs, and its counters and things shown, each of six numbers."""

    def __init__(self, head, signs, counters, things):
        self.head = head
        self.signs = signs
        self.counters = counters
        self.things = things


class Plan:
    """A panel's wires, a setup, a job's lines, and how many passes the job has."""

    def __init__(self, passes, panel, setup, job):
        self.passes = passes
        self.panel = panel
        self.setup = setup
        self.job = job


def where_wires(where, index):
    """The wires of a where: its box sends on what comes to it if the where holds."""
    row = where.numbers["R"]
    box = FIRST_BOX + index
    wires = [(("read", where.numbers["C"]), ("look", index))]
    if where.ending == "yes":
        wires.append((("hole", index, row), ("by", box)))
    else:
        wires.append((("hole", index, row), ("by", index)))
        wires.append((("send", 1), ("plain", index)))
        wires.append((("chosen", index), ("by", box)))
    if index == 0:
        wires.append((("send", 1), ("other", box)))
    else:
        wires.append((("chosen", box - 1), ("other", box)))
    return wires


def plan_panel(wheres):
    """The wires by which the meant cards are chosen."""
    wires = []
    for index, where in enumerate(wheres):
        wires.extend(where_wires(where, index))
    if wheres:
        wires.append((("chosen", FIRST_BOX - 1 + len(wheres)), ("to", 0)))
    else:
        wires.append((("send", 1), ("to", 0)))
    return wires


def key_lines(key):
    """The job's lines that order the cards by a key, its last column first."""
    looked = [ALL_ROWS]
    if key.ending == "holes":
        looked = [row_holes(row) for row in range(ROWS)]
    first = key.numbers["C"]
    last = first + key.numbers["N"] - 1
    lines = []
    for column in range(last, first - 1, -1):
        lines.extend([("pass", "C", column, rows, ">", "C") for rows in looked])
    return lines


def plan_job(keys):
    """The job's lines: the meant cards are chosen, ordered from the last key on, accounted."""
    lines = [("choose", "A", 0, ">", "B", "C")]
    for key in reversed(keys):
        lines.extend(key_lines(key))
    lines.append(("account", "C", 0, 1, ">", "D"))
    return lines


def setup_head(parts, strange):
    """The head: each level's field, the last key's first; list, punch and strange."""
    head = []
    for key in reversed(keys_of(parts)):
        head.extend([key.numbers["C"], key.numbers["N"]])
    head.extend([0] * (CONTROL_NUMBERS - len(head)))
    return head + [LISTINGS[listing_of(parts)], NO_PUNCH, strange]


def setup_levels(keys):
    """The levels that have totals: one for each key, and the last."""
    return list(range(1, len(keys) + 1)) + [LAST_LEVEL]


def total_counter(total, level):
    """The counter of a total at a level."""
    if total.word == "count":
        return (level, ADD_ONE, 0, 0, 0, 0)
    return (level, ADD_AMOUNT, total.numbers["C"], total.numbers["N"], 0, 0)


def setup_counters(keys, totals):
    """The counters: level by level one for each total."""
    counters = []
    for level in setup_levels(keys):
        counters.extend([total_counter(total, level) for total in totals])
    return counters


def field_thing(part, line):
    """The field of a key or a seen as a thing shown in a line."""
    numbers = part.numbers
    return (line, SHOW_FIELD, numbers["C"], numbers["N"], numbers["P"], 0)


def keys_from(keys, level):
    """The keys of a level and above, first key first (none of the last level)."""
    if level == LAST_LEVEL:
        return []
    return keys[:len(keys) + 1 - level]


def setup_things(keys, totals, seens):
    """The things shown: the seens, then level by level the keys' fields and the counters."""
    things = [field_thing(seen, CARD_LINE) for seen in seens]
    counter = 0
    for level in setup_levels(keys):
        things.extend([field_thing(key, level) for key in keys_from(keys, level)])
        for total in totals:
            things.append((level, SHOW_COUNTER, counter, 0, total.numbers["P"], total.numbers["W"]))
            counter += 1
    return things


def make_plan(parts, signs):
    """The plan of a report."""
    keys = keys_of(parts)
    totals = totals_of(parts)
    head = setup_head(parts, signs.strange)
    things = setup_things(keys, totals, seens_of(parts))
    setup = Setup(head, signs, setup_counters(keys, totals), things)
    return Plan(report_passes(parts), plan_panel(wheres_of(parts)), setup, plan_job(keys))


def write_words(words):
    """Words and numbers with single blanks between them."""
    return " ".join([str(word) for word in words])


def text_bytes(lines):
    """The bytes of a text's lines, each with its line end."""
    told = []
    for line in lines:
        told.extend([ord(letter) for letter in line])
        told.append(LINE_END)
    return told


def panel_text(panel):
    """The text of a panel."""
    return text_bytes([write_words(sends + (">",) + takes) for sends, takes in panel])


def job_text(job):
    """The text of a job."""
    return text_bytes([write_words(line) for line in job])


def tell_plan(plan):
    """A plan's passes, then its five pieces, each with its length before it."""
    setup = plan.setup
    counters = join_rows(setup.counters)
    things = join_rows(setup.things)
    told = [plan.passes]
    for piece in (panel_text(plan.panel), setup.head, counters, things, job_text(plan.job)):
        told.append(len(piece))
        told.extend(piece)
    return told
