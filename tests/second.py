"""The document's words told a second time, by other means than the package's.

A card is a dict from columns to holes here; a report is the list of its lines, without line ends, and has no fault.
"""

import re

from making import SIGNS, holes_of


def words_of(lines, *firsts):
    """The lines that begin with one of the words: for each its words, numbers as numbers."""
    split = [line.split() for line in lines]
    return [[int(word) if word.isdigit() else word for word in words] for words in split if words[0] in firsts]


def rows_of(holes):
    return [row for row in range(12) if holes // 2 ** row % 2]


def meant_cards(lines, cards):
    meant = []
    for card in cards:
        wheres = words_of(lines, "where")
        if all((row in rows_of(card.get(column, 0))) == (how == "yes") for word, column, row, how in wheres):
            meant.append(card)
    return meant


def comes_before(lines, one, other):
    """Below 0 if one comes before other by the keys, above 0 if behind it, 0 if they're alike."""
    for word, column, length, at, place, by, how in words_of(lines, "key"):
        for offset in range(length):
            pair = [card.get(column + offset, 0) for card in (one, other)]
            if how == "top":
                pair = [max([-1] + rows_of(holes)) for holes in pair]
            if pair[0] != pair[1]:
                return -1 if pair[0] < pair[1] else 1
    return 0


def ordered_cards(lines, cards):
    """The meant cards, each put where as many as come before it leave it."""
    meant = meant_cards(lines, cards)
    ordered = [None] * len(meant)
    for index, card in enumerate(meant):
        before = 0
        for other_index, other in enumerate(meant):
            held = comes_before(lines, other, card)
            before += held < 0 or (held == 0 and other_index < index)
        ordered[before] = card
    return ordered


def amount(card, column, length):
    """The amount of a field, or None: the field is written as a text and held against a pattern."""
    written = ""
    for offset in range(length):
        rows = rows_of(card.get(column + offset, 0))
        minus = offset == length - 1 and 1 in rows
        figures = [row - 2 for row in rows if not (minus and row == 1)]
        written += str(figures[0]) if len(figures) == 1 and figures[0] >= 0 else "?" if figures else " "
        written += "-" if minus else ""
    if not re.fullmatch(" *[0-9]+-?", written) or re.fullmatch(" *0+-", written):
        return None
    return -int(written[:-1]) if written.endswith("-") else int(written)


def stretches(lines, cards, level):
    """The groups of a level, as (first, behind the last): those of level k + 1 are all cards together."""
    keys = words_of(lines, "key")
    fields = [[card.get(key[1] + offset, 0) for key in keys[:len(keys) + 1 - level] for offset in range(key[2])]
              for card in cards]
    starts = [index for index in range(len(cards)) if index == 0 or fields[index] != fields[index - 1]]
    return list(zip(starts, starts[1:] + [len(cards)]))


def is_met(lines, cards):
    """Whether a report can be met of its meant cards in their order."""
    for word, column, length, at, place, width in words_of(lines, "sum"):
        amounts = [amount(card, column, length) for card in cards]
        if any(found is None for found in amounts):
            return False
        for level in range(1, len(words_of(lines, "key")) + 2):
            for first, behind in stretches(lines, cards, level):
                if any(abs(sum(amounts[first:end])) >= 10 ** 16 for end in range(first, behind + 1)):
                    return False
    return True


def plan_pieces(strange, lines):
    """The five pieces of the plan: two texts and three lists of numbers, the texts where the document has them."""
    wires = []
    wheres, keys = words_of(lines, "where"), words_of(lines, "key")
    for i, (word, column, row, how) in enumerate(wheres):
        wires.append(f"read {column} > look {i}")
        wires += {"yes": [f"hole {i} {row} > by {16 + i}"],
                  "no": [f"hole {i} {row} > by {i}", f"send 1 > plain {i}", f"chosen {i} > by {16 + i}"]}[how]
        wires.append(f"chosen {15 + i} > other {16 + i}" if i else "send 1 > other 16")
    wires.append(f"chosen {15 + len(wheres)} > to 0" if wheres else "send 1 > to 0")

    job = ["choose A 0 > B C"]
    for word, column, length, at, place, by, how in keys[::-1]:
        for x in range(column, column + length)[::-1]:
            job += [f"pass C {x} {2 ** r} > C" for r in range(12)] if how == "holes" else [f"pass C {x} 4095 > C"]
    job.append("account C 0 1 > D")

    by_level = {len(keys) - index: key for index, key in enumerate(keys)}
    head = [number for level in (1, 2, 3) for number in by_level.get(level, (0, 0, 0))[1:3]]
    head += [["list none", "list all", "list first"].index(lines[-1]), 0, strange]
    counters, things = [], []
    for word, column, length, at, place in words_of(lines, "see"):
        things += [0, 0, column, length, place, 0]
    for level in sorted(by_level) + [4]:
        for above in (3, 2, 1):
            if level <= above <= len(keys):
                word, column, length, at, place, by, how = by_level[above]
                things += [level, 0, column, length, place, 0]
        for words in words_of(lines, "sum", "count"):
            things += [level, 1, len(counters) // 6, 0] + words[-2:]
            counters += [level, 0] + words[1:3] + [0, 0] if words[0] == "sum" else [level, 2, 0, 0, 0, 0]
    return "\n".join(wires) + "\n", head, counters, things, "\n".join(job) + "\n"


def laid(things):
    """A line of (place, text) things."""
    line = " " * 132
    for place, text in things:
        line = line[:place] + text + line[place + len(text):]
    return line


def field_thing(words, card, legend, strange):
    shown = {holes_of(sign): chr(legend[number]) for number, sign in enumerate(SIGNS)}
    field = [card.get(words[1] + offset, 0) for offset in range(words[2])]
    return words[4], "".join(shown.get(holes, chr(strange)) for holes in field)


def total_thing(words, cards):
    number = len(cards) if words[0] == "count" else sum(amount(card, words[1], words[2]) for card in cards)
    place, width = words[-2:]
    text = "%d%s" % (abs(number), "-" if number < 0 else " ")
    return place, text.rjust(width) if len(text) <= width else "*" * width


def paper_lines(strange, lines, legend, cards):
    """The paper's lines as texts, or None if the report can't be met."""
    ordered = ordered_cards(lines, cards)
    keys, totals = words_of(lines, "key"), words_of(lines, "sum", "count")
    if not is_met(lines, ordered):
        return None
    groups = {level: stretches(lines, ordered, level) for level in range(1, len(keys) + 2)}
    firsts = [first for first, behind in groups[1]]
    made = []
    for index in range(len(ordered) + 1):
        for level in range(1, len(keys) + 1):
            for first, behind in groups[level]:
                if behind == index:
                    above = keys[:len(keys) + 1 - level]
                    shown = [field_thing(key, ordered[index - 1], legend, strange) for key in above]
                    made.append(laid(shown + [total_thing(total, ordered[first:behind]) for total in totals]))
        if index < len(ordered) and (lines[-1] == "list all" or (lines[-1] == "list first" and index in firsts)):
            seens = words_of(lines, "see")
            made.append(laid([field_thing(seen, ordered[index], legend, strange) for seen in seens]))
    if totals:
        made.append(laid([total_thing(total, ordered) for total in totals]))
    return made
