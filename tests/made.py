"""Reports and cards made by a source of chance, always the same ones from the same seed."""

from making import card_of


def make_report(source):
    """A report of few parts, over the columns that make_card punches."""
    lines = []
    for turn in range(source.choice([0, 0, 1, 2])):
        how = source.choice(["yes", "no", "no"])
        lines.append("where %d %d %s" % (source.randrange(4), source.randrange(5), how))
    for turn in range(source.randrange(4)):
        numbers = (source.randrange(4), source.randrange(1, 3), source.randrange(8))
        lines.append("key %d %d at %d by " % numbers + source.choice(["holes", "top"]))
    for turn in range(source.randrange(4)):
        numbers = (source.randrange(10, 14), source.randrange(1, 3), source.randrange(30), source.randrange(2, 9))
        lines.append("sum %d %d at %d %d" % numbers if source.random() < 0.6 else "count at %d %d" % numbers[2:])
    for turn in range(source.randrange(4)):
        numbers = (source.randrange(14), source.randrange(1, 6), source.randrange(20, 126))
        lines.append("see %d %d at %d" % numbers)
    return lines + [source.choice(["list all", "list first", "list none"])]


def make_card(source):
    """A card whose sums mostly have amounts."""
    pieces = [(column, source.choice("12AB ")) for column in range(5)]
    pieces += [(column, source.choice("0123456789")) for column in range(10, 15)]
    if source.random() < 0.2:
        pieces.append((source.randrange(10, 15), 2))
    if source.random() < 0.1:
        pieces.append((source.randrange(14), source.randrange(4096)))
    return card_of(*pieces)


def make_long_report(source):
    """A report with as many parts of each sort as may be, or fewer."""
    lines = []
    for turn in range(source.choice([0, 1, 3, 16])):
        lines.append("where %d %d %s" % (source.randrange(80), source.randrange(12), source.choice(["yes", "no"])))
    for turn in range(source.randrange(4)):
        length = source.randrange(1, 6)
        numbers = (source.randrange(75), length, source.randrange(127))
        lines.append("key %d %d at %d by " % numbers + source.choice(["holes", "top"]))
    for turn in range(source.choice([0, 1, 2, 8])):
        numbers = (source.randrange(62), source.randrange(1, 19), source.randrange(112), source.randrange(2, 21))
        lines.append("sum %d %d at %d %d" % numbers if source.random() < 0.6 else "count at %d %d" % numbers[2:])
    for turn in range(source.choice([0, 1, 2, 16])):
        lines.append("see %d %d at %d" % (source.randrange(60), source.randrange(1, 21), source.randrange(112)))
    return lines + [source.choice(["list all", "list first", "list none"])]
