"""The forms of a report's lines, and one line read by them."""

LINE_END = 10
NOUGHT = 48
NINE = 57

# A capital letter stands for a number of its range below. Every form has its line end at
# its end alone, as every line has: so a line that goes on behind a form's end can't be.
FORMS = (
    "where C R yes\n",
    "where C R no\n",
    "key C N at P by holes\n",
    "key C N at P by top\n",
    "sum C N at P W\n",
    "count at P W\n",
    "see C N at P\n",
    "list all\n",
    "list first\n",
    "list none\n",
)
RANGES = {"C": (0, 79), "R": (0, 11), "N": (1, 80), "P": (0, 131), "W": (2, 20)}


class Part:
    """A line that is by a form: its first word, its last one, its numbers by their letters."""

    def __init__(self, form, numbers):
        words = form.split()
        self.word = words[0]
        self.ending = words[-1]
        self.numbers = numbers


class Reading:
    """A line held against a form: how many bytes are right, and the part (None if it's none)."""

    def __init__(self, right, part):
        self.right = right
        self.part = part


def can_begin(value, low, high):
    """Whether some number from low to high begins with value's figures."""
    if value == 0:
        return low == 0
    first = value
    last = value
    while first <= high:
        if last >= low:
            return True
        first = first * 10
        last = last * 10 + 9
    return False


def figures_end(line, at, low, high):
    """Where the figures from at on end that some number from low to high begins with."""
    end = at
    value = 0
    while end < len(line) and NOUGHT <= line[end] <= NINE:
        # Behind a leading nought no figure can come: it would be needless.
        if end > at and value == 0:
            return end
        value = value * 10 + line[end] - NOUGHT
        if not can_begin(value, low, high):
            return end
        end += 1
    return end


def number_of(figures):
    """The number that a row of figures (bytes) says."""
    value = 0
    for figure in figures:
        value = value * 10 + figure - NOUGHT
    return value


def right_end(sign, line, at):
    """Where the bytes from at on end that are right for a form's sign."""
    if sign in RANGES:
        return figures_end(line, at, RANGES[sign][0], RANGES[sign][1])
    if at < len(line) and line[at] == ord(sign):
        return at + 1
    return at


def is_whole(sign, found):
    """Whether the bytes found for a form's sign are all that it asks for."""
    if not found:
        return False
    if sign in RANGES:
        # A number's first figures may be right and yet be no number of the range: 1 of 12, from 2 on.
        return RANGES[sign][0] <= number_of(found) <= RANGES[sign][1]
    return True


def read_by(form, line):
    """The line held against one form."""
    numbers = {}
    at = 0
    for sign in form:
        end = right_end(sign, line, at)
        found = line[at:end]
        if not is_whole(sign, found):
            return Reading(end, None)
        if sign in RANGES:
            numbers[sign] = number_of(found)
        at = end
    return Reading(at, Part(form, numbers))


def read_line(line):
    """The line held against the form by which most of its bytes are right."""
    best = Reading(0, None)
    for form in FORMS:
        reading = read_by(form, line)
        if reading.right > best.right:
            best = reading
    return best
