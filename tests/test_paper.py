"""paper, and with it section 1's code, legends and amounts, section 2's meaning, G3 and G4."""

import contextlib
import io
import random
import unittest

from cases import LEGEND, MET, NOT_MET, STRANGE, figures, punched
from made import make_card, make_report
from making import RUN, RUN_CARDS, SIGNS, Watched, card_of, deck_of, holes_of, text_of
from second import amount, meant_cards, paper_lines
from tabulreports.cards import amount_of, code_holes, read_deck
from tabulreports.reports import paper


def rows_of(answer):
    """The paper's lines of an answer, as texts."""
    told = bytes(answer[1:]).decode("latin-1")
    return [told[at:at + 132] for at in range(0, len(told), 132)]


def shown(lines, cards, strange=STRANGE, legend=LEGEND):
    return paper(strange, text_of(*lines), legend, deck_of(cards))


class Papers(unittest.TestCase):
    def test_papers_that_are_met(self):
        for name, (lines, cards, expected) in MET.items():
            with self.subTest(name):
                answer = shown(lines, cards)
                self.assertEqual(answer[0], len(expected))
                self.assertEqual(len(answer), 1 + 132 * len(expected))
                self.assertEqual(rows_of(answer), [row.ljust(132) for row in expected])

    def test_papers_that_are_not_met(self):
        for name, (lines, cards) in NOT_MET.items():
            with self.subTest(name):
                self.assertEqual(shown(lines, cards), [-5])

    def test_the_run_line_by_line(self):
        rows = rows_of(shown(RUN, RUN_CARDS))
        self.assertEqual(len(rows), 6)
        self.assertEqual([row[:4] for row in (rows[0], rows[1], rows[3])], ["A100", "A00N", "B070"])
        self.assertEqual((rows[2][0], rows[2][15:17], rows[2][17], rows[2][22]), ("A", "95", " ", "2"))
        self.assertEqual((rows[4][0], rows[4][15:17], rows[4][17], rows[4][22]), ("B", "70", " ", "1"))
        self.assertEqual((rows[5][0], rows[5][14:17], rows[5][17], rows[5][22]), (" ", "165", " ", "3"))

    def test_a_paper_of_more_lines_than_a_rooms(self):
        for count in (256, 257, 400):
            self.assertEqual(shown(["list all"], [{}] * count), [count] + [32] * 132 * count)

    def test_as_many_of_each_part_as_may_be(self):
        lines = ["where 0 0 yes", "where 1 0 no"] * 8
        lines += ["key 0 1 at 0 by holes", "key 2 1 at 1 by top", "key 3 1 at 2 by holes"]
        lines += ["sum 4 2 at %d 4" % (10 + 5 * index) for index in range(7)] + ["count at 50 4"]
        lines += ["see 3 1 at %d" % (60 + 2 * index) for index in range(16)] + ["list all"]
        rows = rows_of(shown(lines, punched("A 1X 5", "A 1X15", "A12X 5", "AA1X99", "5 1X99")))
        card = " " * 60 + " ".join("X" * 16)
        def totals(number):
            return "       " + " ".join("%3d " % number for index in range(7))
        self.assertEqual(rows[0], card.ljust(132))
        self.assertEqual(rows[2], ("A1X" + totals(20)).ljust(50) + "  2 ".ljust(82))
        self.assertEqual(rows[-1], ("   " + totals(25)).ljust(50) + "  3 ".ljust(82))
        self.assertEqual(len(rows), 2 + 2 + 1 + 3 + 1)


class Signs(unittest.TestCase):
    HOLES = {0: 0, 1: 8, 2: 16, 8: 1024, 9: 2048, 10: 1024 + 16, 15: 1024 + 512, 16: 1, 17: 9, 31: 1 + 1024 + 512,
             32: 2, 33: 2 + 8, 41: 2 + 2048, 48: 4, 49: 4 + 8, 57: 4 + 2048, 58: 4 + 1024 + 16, 63: 4 + 1024 + 512}

    def test_the_code(self):
        for number, holes in self.HOLES.items():
            self.assertEqual(code_holes(number), holes)
        for number, sign in enumerate(SIGNS):
            self.assertEqual(code_holes(number), holes_of(sign))

    def test_every_holes_of_a_column(self):
        legend = list(range(100, 164))
        numbers = {code_holes(number): 100 + number for number in range(64)}
        self.assertEqual(len(numbers), 64)
        for begin in range(0, 4096, 80):
            holes = [begin + column for column in range(80) if begin + column < 4096]
            answer = shown(["see 0 80 at 0", "list all"], [card_of(*enumerate(holes))], 7, legend)
            expected = [numbers.get(hole, 7) for hole in holes]
            self.assertEqual(answer[1:1 + len(holes)], expected)

    def test_any_legend_and_any_strange(self):
        for legend in (list(range(64)), list(range(192, 256)), list(range(255, 191, -1))):
            for strange in (0, 1, 32, 255):
                answer = shown(["see 0 3 at 0", "list all"], [card_of((0, "A"), (1, 3))], strange, legend)
                self.assertEqual(answer, [1, legend[17], strange, legend[0]] + [32] * 129)

    def test_places_where_nothing_is_put_are_blanks_whatever_the_legend_says(self):
        legend = list(range(64, 128))
        answer = shown(["key 0 1 at 3 by top", "count at 6 3", "list none"], [{}], 0, legend)
        self.assertEqual(answer[:1 + 132], [2] + [32] * 3 + [64] + [32] * 3 + [49] + [32] * 124)


class Amounts(unittest.TestCase):
    def test_against_the_second_telling(self):
        source = random.Random(6)
        found = 0
        for turn in range(3000):
            length = source.choice([1, 2, 3, 4, 18])
            usual = [0] * 3 + [4, 4, 8, 2048] + [4 << source.randrange(10)]
            holes = [source.choice(usual) for column in range(length)]
            if source.random() < 0.5:
                holes.sort(key=lambda one: one > 0)
            if source.random() < 0.4:
                holes[-1] |= 2
            if source.random() < 0.1:
                holes[source.randrange(length)] = source.randrange(4096)
            card = card_of((62 - 1, 4095), *[(62 + index, one) for index, one in enumerate(holes)])
            expected = amount(card, 62, length)
            self.assertEqual(amount_of(read_deck(deck_of([card]))[0], 62, length), expected, holes)
            found += expected is not None
        self.assertGreater(found, 500)
        self.assertLess(found, 2500)

    def test_every_holes_in_the_last_column(self):
        for holes in range(4096):
            card = [0] * 78 + [8, holes]
            expected = None
            if bin(holes & ~2).count("1") == 1 and holes & ~2 > 3:
                figure = (holes & ~2).bit_length() - 3
                expected = -(10 + figure) if holes & 2 else 10 + figure
            self.assertEqual(amount_of(card, 78, 2), expected, holes)


class Refusals(unittest.TestCase):
    TEXT = text_of(*RUN)
    DECK = deck_of(RUN_CARDS)
    BAD_LEGENDS = ([], LEGEND[:63], LEGEND + [200], LEGEND[:63] + LEGEND[:1], LEGEND[:5] + [LEGEND[6]] + LEGEND[6:],
                   [0] * 64, [0] * 1000, LEGEND + LEGEND, LEGEND + LEGEND[:1], list(range(256)))
    BAD_STRANGES = (-1, 256, 10 ** 18, -10 ** 18, 257)
    BAD_DECKS = ([-1], [1], [1, 80, 1], [1, 0, 0], [1, 0, 4096], [2, 1, 1, 0, 1], [10 ** 18], [0] * 1001)
    NOT_MET = deck_of(punched("A"))

    def test_a_legend_that_is_none(self):
        for legend in self.BAD_LEGENDS:
            self.assertEqual(paper(STRANGE, self.TEXT, legend, self.DECK), [-2], legend)
            self.assertEqual(paper(STRANGE, self.TEXT, legend, []), [-2], legend)

    def test_a_legend_with_a_number_that_is_no_byte(self):
        for number in (256, -1, 10 ** 18):
            for at in (0, 63):
                legend = LEGEND[:at] + [number] + LEGEND[at + 1:]
                self.assertEqual(paper(STRANGE, self.TEXT, legend, self.DECK), [-2])

    def test_a_strange_that_is_no_byte(self):
        for strange in self.BAD_STRANGES:
            self.assertEqual(paper(strange, self.TEXT, LEGEND, self.DECK), [-2])
            self.assertEqual(paper(strange, text_of("list none"), LEGEND, []), [-2])
        for strange in (0, 255):
            self.assertEqual(paper(strange, self.TEXT, LEGEND, self.DECK)[0], 6)

    def test_numbers_that_are_no_decks(self):
        for deck in self.BAD_DECKS:
            self.assertEqual(paper(STRANGE, self.TEXT, LEGEND, deck), [-8])

    def test_a_card_that_cannot_be_met(self):
        self.assertEqual(paper(STRANGE, self.TEXT, LEGEND, self.NOT_MET), [-5])

    def test_the_first_that_is_so(self):
        texts = (([10] * 4097, [-1]), (text_of("list al"), [-6, 1, 0, 7]),
                 (text_of("list all", "list all"), [-6, 2, 1, 0]), ([], [-6, 3, 0, 0]))
        for text, refusal in texts:
            for strange in (STRANGE, -1):
                for legend in (LEGEND, []):
                    for deck in (self.DECK, [-1], self.NOT_MET):
                        self.assertEqual(paper(strange, text, legend, deck), refusal)
        for deck in (self.DECK, [-1], self.NOT_MET, self.NOT_MET + [-1]):
            self.assertEqual(paper(-1, self.TEXT, LEGEND, deck), [-2])
            self.assertEqual(paper(STRANGE, self.TEXT, LEGEND[1:], deck), [-2])
            self.assertEqual(paper(256, self.TEXT, [], deck), [-2])
        self.assertEqual(paper(STRANGE, self.TEXT, LEGEND, self.NOT_MET + [-1]), [-8])


class HandedIn(unittest.TestCase):
    CALLS = (
        (STRANGE, text_of(*RUN), LEGEND, deck_of(RUN_CARDS)),
        (STRANGE, text_of("list all"), LEGEND, deck_of(RUN_CARDS)),
        (0, text_of(*RUN), LEGEND, []),
        (STRANGE, text_of(*RUN), LEGEND, deck_of(punched("A"))),
        (STRANGE, text_of(*RUN), LEGEND, [1]),
        (STRANGE, text_of(*RUN), LEGEND[1:], deck_of(RUN_CARDS)),
        (256, text_of(*RUN), LEGEND, deck_of(RUN_CARDS)),
        (STRANGE, text_of("list"), LEGEND, deck_of(RUN_CARDS)),
        (STRANGE, text_of("sum 0 18 at 0 20", "list all"), LEGEND, deck_of([figures("15", True)])),
    )

    def test_it_is_the_same_afterwards(self):
        for strange, text, legend, deck in self.CALLS:
            before = (list(text), list(legend), list(deck))
            paper(strange, text, legend, deck)
            self.assertEqual((text, legend, deck), before)

    def test_it_is_not_changed_for_a_while_either(self):
        for strange, text, legend, deck in self.CALLS:
            watched = paper(strange, Watched(text), Watched(legend), Watched(deck))
            self.assertEqual(watched, paper(strange, text, legend, deck))

    def test_a_second_call_gives_the_same(self):
        first = [paper(*call) for call in self.CALLS]
        kept = [list(answer) for answer in first]
        for answer in first:
            self.assertIs(type(answer), list)
            self.assertEqual({type(number) for number in answer}, {int})
            answer[:] = [99] * 300
        self.assertEqual([paper(*call) for call in self.CALLS], kept)

    def test_it_prints_nothing(self):
        out = io.StringIO()
        with contextlib.redirect_stdout(out), contextlib.redirect_stderr(out):
            for call in self.CALLS:
                paper(*call)
        self.assertEqual(out.getvalue(), "")


class AgainstTheWords(unittest.TestCase):
    """Many made reports and decks, always the same ones, against the second telling."""

    def test_made_reports(self):
        source = random.Random(7)
        met = 0
        for turn in range(500):
            lines = make_report(source)
            cards = [make_card(source) for card in range(source.randrange(12))]
            expected = paper_lines(STRANGE, lines, LEGEND, cards)
            answer = shown(lines, cards)
            if expected is None:
                self.assertEqual(answer, [-5], lines)
            else:
                self.assertEqual(answer[0], len(expected), lines)
                self.assertEqual(rows_of(answer), expected, lines)
                met += 1
        self.assertGreater(met, 200)
        self.assertLess(met, 450)

    def test_the_meaning_hangs_on_the_meant_cards_alone(self):
        source = random.Random(8)
        fewer = 0
        for turn in range(200):
            lines = make_report(source)
            cards = [make_card(source) for card in range(source.randrange(12))]
            meant = meant_cards(lines, cards)
            fewer += len(meant) < len(cards)
            self.assertEqual(shown(lines, cards), shown(lines, meant), lines)
        self.assertGreater(fewer, 50)

    def test_the_last_lines_totals_are_sums_over_all_meant_cards(self):
        source = random.Random(9)
        keys = ["key 0 1 at 0 by holes", "key 1 2 at 1 by top", "key 3 1 at 4 by holes"]
        for turn in range(100):
            amounts = [source.randrange(-999, 1000) for card in range(source.randrange(30))]
            cards = [card_of((0, source.choice("12AB ")), (1, source.choice("12AB ")), (10, "%03d" % abs(number)),
                             (12, 2 if number < 0 else 0)) for number in amounts]
            meant = [number for number, card in zip(amounts, cards) if card.get(0, 0) % 2 == 0]
            lines = ["where 0 0 no"] + keys[:turn % 4] + ["sum 10 3 at 10 10", "count at 30 5", "list first"]
            last = rows_of(shown(lines, cards))[-1]
            figures_then_sign = "%d%s" % (abs(sum(meant)), "-" if sum(meant) < 0 else " ")
            self.assertEqual(last, (" " * 10 + figures_then_sign.rjust(10)).ljust(30) + ("%4d" % len(meant)).ljust(102))


class Legend(unittest.TestCase):
    def test_the_tests_own_legend_is_one(self):
        self.assertEqual(len(set(SIGNS)), 64)


if __name__ == "__main__":
    unittest.main()
