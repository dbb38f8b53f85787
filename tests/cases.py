"""Reports and decks, with the papers that they mean, or that they can't be met.

MET: name: (the report's lines, the cards, the paper's lines without the blanks at their ends).
NOT_MET: name: (the report's lines, the cards). The strange byte is STRANGE, the legend LEGEND.
"""

from making import A_100, RUN, RUN_CARDS, SIGNS, card_of

STRANGE = ord("}")
LEGEND = list(SIGNS.encode("ascii"))


def punched(*texts):
    """Cards with the texts punched from column 0 on."""
    return [card_of((0, text)) for text in texts]


def figures(text, minus=False):
    """A card with figures that end at column 17, with row 1 in it if it's minus."""
    return card_of((18 - len(text), text), (17, 2 if minus else 0))


def amount_lines(*totals):
    """A report of totals alone."""
    return list(totals) + ["list none"]


SUM_18 = "sum 0 18 at 0 20"
MOST = "9999999999999999"
TWO_KEYS = ["key 0 1 at 0 by holes", "key 1 1 at 2 by holes"]
THREE_KEYS = ["key 0 1 at 0 by holes", "key 1 1 at 1 by top", "key 2 1 at 2 by holes"]

MET = {
    "the run": (RUN, RUN_CARDS, [
        "A100",
        "A00N",
        "A              95     2",
        "B070",
        "B              70     1",
        "              165     3",
    ]),

    # Cards' lines.
    "list all alone": (["list all"], [A_100, {}, A_100], ["", "", ""]),
    "list first alone": (["list first"], [A_100, {}, A_100], [""]),
    "list none alone": (["list none"], [A_100, {}, A_100], []),
    "list first without keys": (["see 0 2 at 3", "list first"], punched("A1", "B2", "A1"), ["   A1"]),
    "list all without keys": (["see 0 2 at 3", "list all"], punched("B1", "A2"), ["   B1", "   A2"]),
    "list first with a key": (
        ["key 0 1 at 0 by holes", "see 0 2 at 3", "list first"], punched("B1", "A1", "B2", "A2"),
        ["   A1", "A", "   B1", "B"]),
    "list first with two keys": (
        TWO_KEYS + ["see 2 1 at 5", "list first"], punched("A1X", "A2Y", "A1Z", "B2V", "B2W"),
        ["     X", "A 1", "     Y", "A 2", "A", "     V", "B 2", "B"]),
    "list none with a key": (
        ["key 0 2 at 7 by holes", "list none"], punched("B1", "A1", "A1"), ["       A1", "       B1"]),
    "a card's line of several fields": (
        ["see 4 2 at 0", "see 0 3 at 4", "see 0 1 at 131", "list all"], punched("ABCDEF"),
        ["EF  ABC" + " " * 124 + "A"]),
    "a field of eighty columns": (
        ["see 0 80 at 52", "list all"], punched("A" * 79 + "9"), [" " * 52 + "A" * 79 + "9"]),
    "strange": (
        ["see 0 6 at 1", "list all"], [card_of((0, 3), (1, 4095), (2, "A"), (3, 24), (5, 6))], [" }}A} }"]),
    "strange in a total's line": (["key 0 2 at 0 by top", "list none"], [card_of((0, 3), (1, "Z"))], ["}Z"]),
    "the legend's nought": (["see 0 3 at 0", "list all"], punched("0 0"), ["0 0"]),

    # Groups.
    "one key with totals": (
        ["key 0 1 at 0 by holes", "count at 2 3", "sum 1 2 at 5 4", "list none"],
        punched("B 1", "A10", "A 5", "B99", "B 0"),
        ["A  2  15", "B  3 100", "   5 115"]),
    "one group alone": (
        ["key 0 1 at 0 by holes", "count at 2 3", "list all"], punched("B1", "B2"), ["", "", "B  2", "   2"]),
    "two keys": (
        TWO_KEYS + ["count at 4 3", "see 2 1 at 10", "list all"], punched("B2W", "A1X", "A2Z", "A1Y"),
        ["          X", "          Y", "A 1  2", "          Z", "A 2  1", "A    3", "          W", "B 2  1", "B    1",
         "     4"]),
    "two keys, the second alike where the first differs": (
        TWO_KEYS + ["count at 4 3", "list none"], punched("A1", "B1", "C1"),
        ["A 1  1", "A    1", "B 1  1", "B    1", "C 1  1", "C    1", "     3"]),
    "three keys": (
        THREE_KEYS + ["count at 4 3", "sum 3 1 at 8 3", "see 0 4 at 20", "list all"],
        punched("A111", "A112", "A123", "A214", "B215", "B216"),
        [" " * 20 + "A111", " " * 20 + "A112", "A11  2   3",
         " " * 20 + "A123", "A12  1   3", "A1   3   6",
         " " * 20 + "A214", "A21  1   4", "A2   1   4", "A    4  10",
         " " * 20 + "B215", " " * 20 + "B216", "B21  2  11", "B2   2  11", "B    2  11",
         "     6  21"]),
    "three keys without totals": (
        THREE_KEYS + ["list first"], punched("A11", "A11", "A12", "B12"),
        ["", "A11", "", "A12", "A1", "A", "", "B12", "B1", "B"]),
    "a key by top: the same row, other holes": (
        ["key 0 1 at 0 by top", "count at 2 2", "see 1 1 at 9", "list first"], punched("AR", "1S", "1T", "AU", " V"),
        ["         V", "  1", "         R", "A 1", "         S", "1 2", "         U", "A 1", "  5"]),
    "keys of several columns": (
        ["key 3 2 at 0 by top", "key 0 2 at 5 by holes", "count at 10 2", "list none"],
        punched("XY 12", "XY 21", "XZ 12", "XY 12"),
        ["12   XY   2", "12   XZ   1", "12        3", "21   XY   1", "21        1", "          4"]),
    "groups of cards that aren't meant between": (
        ["where 0 0 yes", "key 1 1 at 0 by holes", "count at 2 2", "list none"], punched("A1", "12", "A1", "A3", "52"),
        ["1 2", "3 1", "  3"]),
    "one card": (
        THREE_KEYS + ["sum 3 1 at 4 2", "see 3 1 at 9", "list all"], punched("A117"),
        ["         7", "A11 7", "A1  7", "A   7", "    7"]),

    # Things over one another.
    "a seen over a seen": (["see 0 3 at 0", "see 3 1 at 1", "see 4 1 at 2", "list all"], punched("ABCX "), ["AX"]),
    "a key over a key": (
        ["key 0 3 at 0 by holes", "key 3 1 at 1 by holes", "list none"], punched("ABCX"), ["AXC", "ABC"]),
    "a total over a key": (
        ["key 0 5 at 0 by holes", "count at 1 3", "list none"], punched("ABCDE"), ["A 1 E", "  1"]),
    "a total over a total": (
        ["sum 0 3 at 0 6", "count at 1 4", "list none"], punched("999", "999"), ["   2"]),
    "a total over a total's left end": (
        ["count at 0 4", "sum 0 3 at 2 6", "list none"], punched("999", "999"), ["   1998"]),

    # Decks of none.
    "none, list all": (["see 0 1 at 0", "list all"], [], []),
    "none, keys": (THREE_KEYS + ["list first"], [], []),
    "none, totals": (["sum 0 1 at 0 3", "count at 5 4", "list all"], [], [" 0     0"]),
    "none, all sorts": (RUN, [], ["                0     0"]),
    "none is meant": (["where 0 0 yes", "where 0 0 no"] + RUN[1:], RUN_CARDS, ["                0     0"]),
    "none is meant, no totals": (["where 79 11 yes", "key 0 1 at 0 by top", "list all"], RUN_CARDS, []),

    # Numbers shown.
    "a nought": (["sum 0 1 at 0 2", "sum 0 1 at 4 20", "list none"], punched("0"), ["0" + " " * 21 + "0"]),
    "a minus": (amount_lines("sum 0 18 at 0 3", "sum 0 18 at 5 2"), [figures("7", True)], [" 7-  7-"]),
    "just fits": (
        amount_lines("sum 0 18 at 0 4", "sum 0 18 at 4 3", "sum 0 18 at 9 5"), [figures("999")], ["999 ***   999"]),
    "just fits below nought": (
        amount_lines("sum 0 18 at 0 4", "sum 0 18 at 4 3", "sum 0 18 at 9 5"), [figures("999", True)],
        ["999-***   999-"]),
    "a count that needs more": (amount_lines("count at 0 2", "count at 3 3"), punched(*["A"] * 10), ["** 10"]),
    "a count that just fits": (amount_lines("count at 0 2", "count at 3 3"), punched(*["A"] * 9), ["9   9"]),
    "sixteen figures": (
        amount_lines(SUM_18, "sum 0 18 at 20 17", "sum 0 18 at 40 16"), [figures(MOST)],
        ["   " + MOST + " " + MOST + "    " + "*" * 16]),
    "sixteen figures below nought": (
        amount_lines(SUM_18, "sum 0 18 at 20 17", "sum 0 18 at 40 16"), [figures(MOST, True)],
        ["   " + MOST + "-" + MOST + "-" + "   " + "*" * 16]),
    "a total of which the groups need fewer places": (
        ["key 0 1 at 0 by holes", "sum 1 1 at 2 2", "list none"], punched("A9", "B9"), ["A 9", "B 9", "  **"]),
    "the last place": (["count at 130 2", "list none"], punched("A"), [" " * 130 + "1"]),

    # Amounts.
    "columns without holes first": (
        amount_lines(SUM_18), [figures("5"), figures("  0"), figures("007"), figures("0" * 18)], [" " * 17 + "12"]),
    "row 1 in the last column": (
        amount_lines(SUM_18), [figures("15", True), figures("4"), figures("0001", True)], [" " * 17 + "12-"]),
    "sums that come to nought": (amount_lines(SUM_18), [figures("15", True), figures("15")], [" " * 18 + "0"]),
    "every figure": (
        amount_lines("sum 0 10 at 0 12"), punched("1234567890"), [" 1234567890"]),
    "a field of one column": (
        amount_lines("sum 5 1 at 0 4"), [card_of((4, 4095), (5, "6"), (6, 4095)), card_of((5, "9"), (5, 2))], ["  3-"]),
    "a field at the card's end": (
        amount_lines("sum 62 18 at 0 20"), [card_of((62, "00" + MOST))], ["   " + MOST]),
    "sums over groups with amounts of both signs": (
        ["key 17 1 at 0 by top", "sum 0 18 at 2 5", "list none"], [figures("15", True), figures("25"), figures("5")],
        ["N   15-", "5   30", "    15"]),
    "a card that isn't meant has no amount": (
        ["where 0 0 yes", "sum 1 3 at 0 5", "list none"], punched("A001", "1   ", "1A", "A002"), ["   3"]),
    "no amount, but no sum either": (["count at 0 3", "list none"], punched("A", "B"), [" 2"]),

    # Sums up to the limit.
    "up to the limit": (amount_lines(SUM_18), [figures("9999999999999998"), figures("1")], ["   " + MOST]),
    "up to the limit below nought": (
        amount_lines(SUM_18), [figures("9999999999999998", True), figures("1", True)], ["   " + MOST + "-"]),
    "the first cards stay within though the next would not alone": (
        amount_lines(SUM_18), [figures(MOST), figures(MOST, True), figures(MOST)], ["   " + MOST]),
    "an amount too large that comes to less with the first cards": (
        amount_lines(SUM_18), [figures("1", True), figures("10000000000000000")], ["   " + MOST]),
    "the same below nought, in a group": (
        ["key 79 1 at 30 by top", SUM_18, "list none"], [figures("1"), figures("10000000000000000", True)],
        ["   " + MOST + "-", "   " + MOST + "-"]),
    "not meant and too large": (
        ["where 79 0 no", SUM_18, "list none"], [figures(MOST), card_of((17, "1"), (79, 1))],
        ["   " + MOST]),
    "too large as they lie, not in their order": (
        ["key 17 1 at 30 by holes", SUM_18, "list none"], [figures("1"), figures(MOST), figures("5", True)],
        [" " * 18 + "1" + " " * 11 + "1", " " * 18 + "5-" + " " * 10 + "N", "   " + MOST + " " * 11 + "9",
         "   9999999999999995"]),
}

NOT_MET = {
    "no amount: a field without holes": (amount_lines(SUM_18), [figures("1"), {}]),
    "no amount: the last column has none": (amount_lines("sum 0 3 at 0 5"), punched("12 ")),
    "no amount: a column without holes between figures": (amount_lines("sum 0 3 at 0 5"), punched("1 2")),
    "no amount: a letter": (amount_lines("sum 0 3 at 0 5"), punched("1A2")),
    "no amount: a letter at the end": (amount_lines("sum 0 3 at 0 5"), punched("12A")),
    "no amount: a letter first": (amount_lines("sum 0 3 at 0 5"), punched("A12")),
    "no amount: two figures in a column": (amount_lines("sum 0 3 at 0 5"), [card_of((0, "123"), (1, "7"))]),
    "no amount: two figures in the last column": (amount_lines("sum 0 3 at 0 5"), [card_of((0, "123"), (2, "7"))]),
    "no amount: row 0 in the last column": (amount_lines("sum 0 3 at 0 5"), [card_of((0, "123"), (2, 1))]),
    "no amount: row 1 before the last column": (amount_lines("sum 0 3 at 0 5"), [card_of((0, "123"), (1, 2))]),
    "no amount: row 1 alone before figures": (amount_lines("sum 0 3 at 0 5"), [card_of((0, 2), (1, "23"))]),
    "no amount: row 1 alone": (amount_lines("sum 0 3 at 0 5"), [card_of((2, 2))]),
    "no amount: row 1 alone behind figures": (amount_lines("sum 0 3 at 0 5"), [card_of((0, "12"), (2, 2))]),
    "no amount: rows 0 and 1 in the last column": (amount_lines("sum 0 3 at 0 5"), [card_of((0, "123"), (2, 3))]),
    "no amount: nought below 0": (amount_lines("sum 0 1 at 0 5"), [card_of((0, "0"), (0, 2))]),
    "no amount: noughts below 0": (amount_lines("sum 0 3 at 0 5"), [card_of((0, "000"), (2, 2))]),
    "no amount: a blank and nought below 0": (amount_lines("sum 0 3 at 0 5"), [card_of((0, "  0"), (2, 2))]),
    "no amount of the last sum": (amount_lines("sum 0 1 at 0 5", "count at 0 5", "sum 1 1 at 0 5"), punched("12", "1")),
    "no amount of the last card": (RUN, RUN_CARDS + punched("C")),
    "no amount in a group": (["key 0 1 at 0 by top", "sum 1 1 at 0 5", "list all"], punched("A1", "A2", "B", "C4")),
    "no amount of a card that has no line": (["sum 1 1 at 0 5", "see 0 1 at 0", "list first"], punched("A1", "B")),
    "one too large": (amount_lines(SUM_18), [figures("10000000000000000")]),
    "one too large below nought": (amount_lines(SUM_18), [figures("10000000000000000", True)]),
    "eighteen nines": (amount_lines(SUM_18), [figures("9" * 18)]),
    "the sum too large": (amount_lines(SUM_18), [figures(MOST), figures("1")]),
    "the sum too large below nought": (amount_lines(SUM_18), [figures("1", True), figures(MOST, True)]),
    "the first cards too large, the whole not": (
        amount_lines(SUM_18), [figures(MOST), figures("1"), figures("5", True)]),
    "the first cards too large below nought": (
        amount_lines(SUM_18), [figures(MOST, True), figures("1", True), figures("5")]),
    "all too large, no group": (
        ["key 17 1 at 0 by top", SUM_18, "list none"], [figures("9000000000000001"), figures("1000000000000002")]),
    "a group's first cards too large, those of all not": (
        ["key 79 1 at 0 by top", SUM_18, "list none"],
        [figures("9", True), card_of((2, MOST), (79, 1)), card_of((17, "1"), (79, 1)),
         card_of((17, "8"), (17, 2), (79, 1))]),
    "too large of the last sum alone": (
        amount_lines("sum 17 1 at 0 5", "sum 0 18 at 0 5"), [figures(MOST), figures("1")]),
    "too large in their order, not as they lie": (
        ["key 17 1 at 0 by holes", SUM_18, "list none"],
        [figures("9", True), figures("1"), figures(MOST)]),
}
