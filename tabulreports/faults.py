"""A report's text taken apart: its lines, its parts, its passes, and why it's refused if it is."""

from tabulreports.cards import COLUMNS
from tabulreports.forms import LINE_END, read_line

MOST_BYTES = 4096
MOST_LINES = 64
MOST_PASSES = 250
MOST_AMOUNT_COLUMNS = 18
MOST_PLACES = 132

# The sorts are numbered in the order in which their lines are to stand.
SORTS = {"where": 0, "key": 1, "sum": 2, "count": 2, "see": 3, "list": 4}
MOST_OF_SORT = (16, 3, 8, 16, 1)

TOO_LONG = -1
FAULTY = -6


class Report:
    """A text's parts, and its refusal: the numbers that are answered (none: it's a report's)."""

    def __init__(self, parts, refusal):
        self.parts = parts
        self.refusal = refusal


def split_lines(text):
    """The text parted behind each line end; what's behind the last one is a line without its end."""
    lines = []
    line = []
    for byte in text:
        line.append(byte)
        if byte == LINE_END:
            lines.append(line)
            line = []
    if line:
        lines.append(line)
    return lines


def read_parts(lines):
    """The parts that the lines say, up to the first line that's none or one too many."""
    parts = []
    for line in lines[:MOST_LINES]:
        part = read_line(line).part
        if part is None:
            return parts
        parts.append(part)
    return parts


def part_passes(part):
    """How many passes a part needs."""
    if part.word != "key":
        return 0
    if part.ending == "holes":
        return 12 * part.numbers["N"]
    return part.numbers["N"]


def report_passes(parts):
    """How many passes all parts together need."""
    return sum([part_passes(part) for part in parts])


def has_field(numbers):
    """Whether there's a field (C, N) on a card."""
    return numbers["C"] + numbers["N"] <= COLUMNS


def has_room(part):
    """Whether a part's field is on the card and what it shows is on the paper's line."""
    numbers = part.numbers
    if part.word == "key" or part.word == "see":
        return has_field(numbers) and numbers["P"] + numbers["N"] <= MOST_PLACES
    if part.word == "sum":
        amount = has_field(numbers) and numbers["N"] <= MOST_AMOUNT_COLUMNS
        return amount and numbers["P"] + numbers["W"] <= MOST_PLACES
    if part.word == "count":
        return numbers["P"] + numbers["W"] <= MOST_PLACES
    return True


def first_unfit(parts):
    """The number of the first part that can't stand where it stands or as it is (None: all can)."""
    counts = [0 for most in MOST_OF_SORT]
    latest = 0
    passes = 0
    for index, part in enumerate(parts):
        sort = SORTS[part.word]
        counts[sort] += 1
        passes += part_passes(part)
        if sort < latest or counts[sort] > MOST_OF_SORT[sort]:
            return index
        if passes > MOST_PASSES or not has_room(part):
            return index
        latest = sort
    return None


def wrong_bytes_fault(lines, index):
    """The fault of the first line that's by no form, or that's the 65th."""
    if index == MOST_LINES:
        return [1, index, 0]
    return [1, index, read_line(lines[index]).right]


def find_fault(lines, parts):
    """The fault's three numbers (none: the text has no fault)."""
    if len(parts) < len(lines):
        return wrong_bytes_fault(lines, len(parts))
    unfit = first_unfit(parts)
    if unfit is not None:
        return [2, unfit, 0]
    if not parts or parts[-1].word != "list":
        return [3, len(parts), 0]
    return []


def read_report(text):
    """The report that a text says, or its refusal."""
    if len(text) > MOST_BYTES:
        return Report([], [TOO_LONG])
    lines = split_lines(text)
    parts = read_parts(lines)
    fault = find_fault(lines, parts)
    if fault:
        return Report([], [FAULTY] + fault)
    return Report(parts, [])
