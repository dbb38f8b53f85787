"""planned, and with it section 3's room, the appendices as far as a plan uses them, and G5; all five calls together."""

import contextlib
import io
import random
import unittest

import second_room
from cases import LEGEND, MET, NOT_MET, STRANGE, figures, punched
from made import make_card, make_long_report, make_report
from making import RUN, RUN_CARDS, Watched, card_of, deck_of, text_of
from second import meant_cards
from tabulreports.cards import read_deck
from tabulreports.faults import read_report
from tabulreports.lines import read_signs
from tabulreports.panels import is_chosen
from tabulreports.plans import make_plan
from tabulreports.reports import judge, order, paper, plan, planned
from tabulreports.room import room_of, run_job
from test_plan import pieces_of

SUM_3 = "sum 0 3 at 0 6"


def done_by(lines, cards, strange=STRANGE, legend=LEGEND):
    return planned(strange, text_of(*lines), legend, deck_of(cards))


def job_length(lines):
    return judge(text_of(*lines))[1] + 2


def right_answer(lines, cards):
    """What the promises say that planned answers, by what paper answers."""
    meant = paper(STRANGE, text_of(*lines), LEGEND, deck_of(cards))
    if meant == [-5]:
        return [job_length(lines) - 1, 7]
    if meant[0] > 256:
        return [job_length(lines) - 1, 9]
    return [job_length(lines), 0] + meant[1:]


class Run(unittest.TestCase):
    def test_the_run(self):
        answer = done_by(RUN, RUN_CARDS)
        rows = ["A100", "A00N", "A              95     2", "B070", "B              70     1", "              165     3"]
        self.assertEqual(answer, [14, 0] + list("".join(row.ljust(132) for row in rows).encode("ascii")))


class Cases(unittest.TestCase):
    def test_papers_that_are_met(self):
        for name, (lines, cards, rows) in MET.items():
            with self.subTest(name):
                expected = list("".join(row.ljust(132) for row in rows).encode("ascii"))
                self.assertEqual(done_by(lines, cards), [job_length(lines), 0] + expected)
                self.assertEqual(done_by(lines, cards), right_answer(lines, cards))

    def test_papers_that_are_not_met(self):
        for name, (lines, cards) in NOT_MET.items():
            with self.subTest(name):
                self.assertEqual(done_by(lines, cards), [job_length(lines) - 1, 7])

    def test_strange_and_the_legend_are_the_setups(self):
        legend = list(range(150, 214))
        answer = done_by(["see 0 2 at 0", "list all"], [card_of((0, 3), (1, "A"))], 7, legend)
        self.assertEqual(answer, [2, 0, 7, 167] + [32] * 130)

    def test_decks_of_none_and_reports_of_little(self):
        self.assertEqual(done_by(["list all"], []), [2, 0])
        self.assertEqual(done_by(["list none"], RUN_CARDS), [2, 0])
        self.assertEqual(done_by(["list all"], [{}, {}]), [2, 0] + [32] * 264)
        self.assertEqual(done_by(["where 79 11 yes", "list all"], RUN_CARDS), [2, 0])
        self.assertEqual(done_by(["key 0 80 at 0 by top", "list all"], []), [82, 0])
        self.assertEqual(done_by(["count at 0 2", "list all"], []), [2, 0, 48] + [32] * 131)

    def test_as_many_of_each_part_as_may_be(self):
        lines = ["where 0 0 yes", "where 1 0 no"] * 8
        lines += ["key 0 1 at 0 by holes", "key 2 1 at 1 by top", "key 3 1 at 2 by holes"]
        lines += ["sum 4 2 at %d 4" % (10 + 5 * index) for index in range(7)] + ["count at 50 4"]
        lines += ["see 3 1 at %d" % (60 + 2 * index) for index in range(16)] + ["list all"]
        cards = punched("A 1X 5", "A 1X15", "A 2X 5", "AA1X99", "5 1X99", "B 1A 0", "A 1A 1")
        answer = done_by(lines, cards)
        self.assertEqual(answer, right_answer(lines, cards))
        self.assertEqual(answer[:2], [27, 0])

    def test_as_many_passes_as_may_be(self):
        lines = ["key 0 20 at 0 by holes", "key 20 10 at 30 by top", "list all"]
        source = random.Random(12)
        cards = [card_of((19, source.randrange(4)), (29, source.randrange(4)), (30, 1 + turn)) for turn in range(30)]
        answer = done_by(lines, cards)
        self.assertEqual(answer[:2], [252, 0])
        self.assertEqual(answer, right_answer(lines, cards))


class MuchPaper(unittest.TestCase):
    def test_256_lines_and_one_more(self):
        self.assertEqual(done_by(["list all"], [{}] * 256), [2, 0] + [32] * 132 * 256)
        self.assertEqual(done_by(["list all"], [{}] * 257), [1, 9])
        self.assertEqual(done_by(["list all"], [{}] * 400), [1, 9])

    def test_totals_lines_count_too(self):
        lines = ["count at 0 5", "list all"]
        self.assertEqual(done_by(lines, [{}] * 255)[:2], [2, 0])
        self.assertEqual(len(done_by(lines, [{}] * 255)), 2 + 132 * 256)
        self.assertEqual(done_by(lines, [{}] * 256), [1, 9])
        self.assertEqual(done_by(["count at 0 5", "list none"], [{}] * 400)[:2], [2, 0])

    def test_groups_lines_count_too(self):
        lines = ["key 0 1 at 0 by holes", "list all"]
        cards = [card_of((0, 1 + index)) for index in range(129)]
        self.assertEqual(done_by(lines, cards[:128]), right_answer(lines, cards[:128]))
        self.assertEqual(done_by(lines, cards[:128])[:2], [14, 0])
        self.assertEqual(done_by(lines, cards), [13, 9])

    def test_a_wrong_card_comes_before_too_much_paper(self):
        cards = punched("1") * 300
        self.assertEqual(done_by(["sum 0 1 at 0 5", "list all"], cards), [1, 9])
        self.assertEqual(done_by(["sum 0 1 at 0 5", "list all"], cards + [{}]), [1, 7])
        self.assertEqual(done_by(["sum 0 1 at 0 5", "list all"], [{}] + cards), [1, 7])

    def test_a_thousand_cards(self):
        self.assertEqual(planned(0, text_of("where 0 0 yes", "list all"), LEGEND, [0] * 1000), [2, 0])
        self.assertEqual(planned(0, text_of("list all"), LEGEND, [0] * 1000), [1, 9])


class Refusals(unittest.TestCase):
    TEXT = text_of(*RUN)
    DECK = deck_of(RUN_CARDS)

    def test_each_by_itself(self):
        self.assertEqual(planned(STRANGE, [10] * 4097, LEGEND, self.DECK), [-1])
        self.assertEqual(planned(STRANGE, text_of("list al"), LEGEND, self.DECK), [-6, 1, 0, 7])
        for legend in ([], LEGEND[:63], LEGEND + [200], LEGEND[:63] + LEGEND[:1], [0] * 1000):
            self.assertEqual(planned(STRANGE, self.TEXT, legend, self.DECK), [-2])
        for strange in (-1, 256, 10 ** 18, -10 ** 18):
            self.assertEqual(planned(strange, self.TEXT, LEGEND, self.DECK), [-2])
        for deck in ([-1], [1], [1, 80, 1], [1, 0, 0], [1, 0, 4096], [2, 1, 1, 0, 1], [10 ** 18], [0] * 1001):
            self.assertEqual(planned(STRANGE, self.TEXT, LEGEND, deck), [-8])

    def test_the_first_that_is_so(self):
        for strange in (STRANGE, -1):
            for legend in (LEGEND, LEGEND[1:]):
                for deck in (self.DECK, [-1]):
                    self.assertEqual(planned(strange, [10] * 4097, legend, deck), [-1])
                    self.assertEqual(planned(strange, [], legend, deck), [-6, 3, 0, 0])
                    self.assertEqual(planned(strange, text_of("list all", "list all"), legend, deck), [-6, 2, 1, 0])
        for deck in (self.DECK, [-1], deck_of(punched("A"))):
            self.assertEqual(planned(-1, self.TEXT, LEGEND, deck), [-2])
            self.assertEqual(planned(STRANGE, self.TEXT, LEGEND[1:], deck), [-2])
        self.assertEqual(planned(STRANGE, self.TEXT, LEGEND, deck_of(punched("A")) + [-1]), [-8])


class PlanIsRight(unittest.TestCase):
    """G5: of many made reports and decks, always the same ones."""

    def made(self):
        source = random.Random(13)
        for turn in range(400):
            yield make_report(source), [make_card(source) for card in range(source.randrange(12))]
        for turn in range(60):
            yield make_long_report(source), [make_card(source) for card in range(source.randrange(12))]

    def test_planned_is_what_paper_means(self):
        wrong = 0
        for lines, cards in self.made():
            answer = done_by(lines, cards)
            self.assertEqual(answer, right_answer(lines, cards), lines)
            wrong += answer[1] == 7
        self.assertGreater(wrong, 20)
        self.assertLess(wrong, 300)

    def test_the_plan_as_told_does_what_planned_says(self):
        for lines, cards in self.made():
            pieces = pieces_of(plan(STRANGE, text_of(*lines), LEGEND))
            done, wrong, rows = second_room.run(*pieces, LEGEND, cards)
            told = list("".join(rows).encode("latin-1"))
            self.assertEqual(done_by(lines, cards), [done, wrong] + told, lines)

    def test_the_panel_chooses_the_meant_cards(self):
        source = random.Random(14)
        chosen = 0
        for turn in range(300):
            lines = ["where %d %d %s" % (source.randrange(3), source.randrange(3), source.choice(["yes", "no"]))
                     for where in range(source.choice([0, 1, 2, 3, 4, 16]))] + ["list all"]
            made = make_plan(read_report(text_of(*lines)).parts, read_signs(STRANGE, LEGEND))
            card = card_of(*[(column, source.randrange(8)) for column in range(3)])
            expected = meant_cards(lines, [card]) == [card]
            self.assertEqual(is_chosen(made.panel, read_deck(deck_of([card]))[0]), expected)
            chosen += expected
        self.assertGreater(chosen, 50)
        self.assertLess(chosen, 250)

    def test_where_the_cards_lie_afterwards(self):
        for lines, cards in list(self.made())[:60]:
            made = make_plan(read_report(text_of(*lines)).parts, read_signs(STRANGE, LEGEND))
            room = room_of(made, read_deck(deck_of(cards)))
            run_job(room, made.job)
            meant = meant_cards(lines, cards)
            self.assertEqual(room.look_into("A"), [])
            self.assertEqual(room.look_into("B"), read_deck(deck_of([card for card in cards if card not in meant])))
            ordered = order(text_of(*lines), deck_of(cards))
            self.assertEqual(room.look_into("C"), read_deck(ordered[1:]))
            self.assertEqual(room.look_into("D"), [])


CALLS = []
for text in (text_of(*RUN), text_of("list all"), text_of("list al"), [10] * 5000,
             text_of("where 0 0 no", "key 0 2 at 0 by top", "key 2 1 at 9 by holes", SUM_3, "list first")):
    CALLS.append((judge, text))
    for deck in (deck_of(RUN_CARDS), [], [1], deck_of([figures("15", True)] + punched("001", "002"))):
        CALLS.append((order, text, deck))
        for legend in (LEGEND, LEGEND[::-1], LEGEND[1:]):
            CALLS.append((paper, STRANGE, text, legend, deck))
            CALLS.append((planned, STRANGE, text, legend, deck))
    CALLS.append((plan, STRANGE, text, LEGEND))
    CALLS.append((plan, -1, text, LEGEND))


class AllCalls(unittest.TestCase):
    def test_what_is_handed_in_is_the_same_afterwards(self):
        for call in CALLS:
            kept = [list(given) if isinstance(given, list) else given for given in call[1:]]
            call[0](*call[1:])
            self.assertEqual(list(call[1:]), kept)

    def test_it_is_not_changed_for_a_while_either(self):
        for call in CALLS:
            watched = [Watched(given) if isinstance(given, list) else given for given in call[1:]]
            self.assertEqual(call[0](*watched), call[0](*call[1:]))

    def test_calls_one_behind_another_do_not_touch_each_other(self):
        first = [call[0](*call[1:]) for call in CALLS]
        kept = [list(answer) for answer in first]
        for answer in first:
            self.assertIs(type(answer), list)
            self.assertEqual({type(number) for number in answer}, {int})
            answer[:] = [99] * 300
        source = random.Random(15)
        for turn in range(5):
            turned = list(range(len(CALLS)))
            source.shuffle(turned)
            for index in turned:
                self.assertEqual(CALLS[index][0](*CALLS[index][1:]), kept[index])

    def test_they_print_nothing(self):
        out = io.StringIO()
        with contextlib.redirect_stdout(out), contextlib.redirect_stderr(out):
            for call in CALLS:
                call[0](*call[1:])
        self.assertEqual(out.getvalue(), "")


if __name__ == "__main__":
    unittest.main()
