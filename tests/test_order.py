"""order, and with it section 1's cards and decks, section 2's meant and ordered cards, and G2."""

import contextlib
import io
import random
import unittest

from making import A_100, B_070, FIVE_999, RUN, RUN_CARDS, RUN_ORDER, Watched, card_of, deck_of, text_of
from second import ordered_cards
from tabulreports.reports import order

NONE = {}


class Cases(unittest.TestCase):
    def ordered(self, lines, cards, expected):
        with self.subTest(lines=lines, cards=cards):
            self.assertEqual(order(text_of(*lines), deck_of(cards)), [len(expected)] + deck_of(expected))

    def refused(self, refusal, lines, numbers):
        with self.subTest(lines=lines, numbers=numbers[:20]):
            self.assertEqual(order(text_of(*lines), numbers), refusal)


class Run(Cases):
    def test_the_run(self):
        self.ordered(RUN, RUN_CARDS, RUN_ORDER)

    def test_number_by_number(self):
        deck = [4, 0, 17, 1, 4, 2, 512, 3, 4, 4, 0, 9, 1, 8, 2, 4, 3, 4,
                4, 0, 128, 1, 2048, 2, 2048, 3, 2048, 4, 0, 9, 1, 4, 2, 4, 3, 130]
        self.assertEqual(order(text_of(*RUN), deck), [
            3, 4, 0, 9, 1, 8, 2, 4, 3, 4, 4, 0, 9, 1, 4, 2, 4, 3, 130, 4, 0, 17, 1, 4, 2, 512, 3, 4])


class Wheres(Cases):
    def test_no_where_means_all(self):
        self.ordered(["list all"], RUN_CARDS, RUN_CARDS)
        self.ordered(["list none"], [NONE, A_100, NONE], [NONE, A_100, NONE])

    def test_yes_and_no(self):
        self.ordered(["where 0 0 yes", "list all"], RUN_CARDS, [RUN_CARDS[0], RUN_CARDS[1], RUN_CARDS[3]])
        self.ordered(["where 0 0 no", "list all"], RUN_CARDS, [FIVE_999])

    def test_each_row_of_a_column(self):
        cards = [card_of((40, 2 ** row)) for row in range(12)]
        others = [card_of((40, 4095 - 2 ** row)) for row in range(12)]
        for row in range(12):
            self.ordered(["where 40 %d yes" % row, "list all"], cards, [cards[row]])
            self.ordered(["where 40 %d no" % row, "list all"], others, [others[row]])

    def test_each_column(self):
        cards = [card_of((column, 1)) for column in range(80)]
        for column in range(80):
            self.ordered(["where %d 0 yes" % column, "list all"], cards, [cards[column]])

    def test_several_of_both_kinds_must_all_hold(self):
        lines = ["where 0 0 yes", "where 1 3 no", "where 2 11 yes", "list first"]
        good = card_of((0, 1), (2, 2048))
        cards = [good, card_of((0, 1)), card_of((2, 2048)), card_of((0, 1), (1, 8), (2, 2048)),
                 card_of((0, 1), (1, 4), (2, 2048))]
        self.ordered(lines, cards, [good, cards[4]])

    def test_the_last_of_sixteen_counts(self):
        lines = ["where %d 5 yes" % column for column in range(15)]
        cards = [card_of(*[(column, 32) for column in range(count)]) for count in (14, 15, 16, 17)]
        self.ordered(lines + ["where 15 5 yes", "list all"], cards, cards[2:])
        self.ordered(lines + ["where 15 5 no", "list all"], cards, cards[1:2])

    def test_wheres_that_never_hold(self):
        self.ordered(["where 3 3 yes", "where 3 3 no", "list all"], RUN_CARDS + [NONE], [])

    def test_a_column_without_holes_has_no_row(self):
        self.ordered(["where 79 0 no", "where 0 11 no", "list all"], [NONE], [NONE])
        self.ordered(["where 0 0 yes", "list all"], [NONE], [])


class Keys(Cases):
    def test_by_holes_as_a_number(self):
        numbers = [4095, 2, 2048, 3, 1, 2047, 0, 1024, 1025]
        cards = [card_of((7, holes)) for holes in numbers]
        expected = [card_of((7, holes)) for holes in sorted(numbers)]
        self.ordered(["key 7 1 at 0 by holes", "list all"], cards, expected)

    def test_by_top_the_column_without_holes_comes_first(self):
        cards = [card_of((7, 2 ** row), (0, row + 1)) for row in (3, 0, 11, 5)] + [NONE]
        self.ordered(["key 7 1 at 0 by top", "list all"], cards, [NONE, cards[1], cards[0], cards[3], cards[2]])

    def test_by_top_other_holes_below_the_greatest_row_are_nothing(self):
        cards = [card_of((7, holes)) for holes in (2048, 4095, 2049, 1024, 2047, 1025)]
        self.ordered(["key 7 1 at 0 by top", "list all"], cards, cards[3:] + cards[:3])

    def test_by_top_and_by_holes_differ(self):
        cards = [card_of((7, 9)), card_of((7, 8))]
        self.ordered(["key 7 1 at 0 by top", "list all"], cards, cards)
        self.ordered(["key 7 1 at 0 by holes", "list all"], cards, cards[::-1])

    def test_a_fields_first_column_that_differs_decides(self):
        cards = [card_of((5, figures)) for figures in ("219", "191", "199", "190", "211")]
        expected = [cards[3], cards[1], cards[2], cards[4], cards[0]]
        for how in ("holes", "top"):
            self.ordered(["key 5 3 at 0 by " + how, "list all"], cards, expected)

    def test_columns_beside_the_field_are_nothing(self):
        cards = [card_of((4, 9), (5, 1), (7, 9)), card_of((5, 1)), card_of((4, 1), (5, 1), (7, 1))]
        self.ordered(["key 5 2 at 0 by holes", "list all"], cards, cards)

    def test_a_field_of_all_columns(self):
        cards = [card_of((79, 2)), card_of((79, 1)), card_of((0, 1)), NONE]
        self.ordered(["key 0 80 at 0 by top", "list all"], cards, [NONE, cards[1], cards[0], cards[2]])

    def test_the_first_key_comes_before_the_second_and_third(self):
        cards = [card_of((0, "%d" % a), (1, "%d" % b), (2, "%d" % c)) for c in (2, 1) for b in (1, 2) for a in (2, 1)]
        def sorted_by(*columns):
            return sorted(cards, key=lambda card: [card[column] for column in columns])
        keys = ["key %d 1 at 0 by holes", "key %d 1 at 0 by top"]
        for how in (0, 1):
            self.ordered([keys[how] % 1, "list all"], cards, sorted_by(1))
            self.ordered([keys[how] % 1, keys[1 - how] % 0, "list all"], cards, sorted_by(1, 0))
            self.ordered([keys[how] % 2, keys[how] % 0, keys[1 - how] % 1, "list all"], cards, sorted_by(2, 0, 1))
            self.ordered([keys[how] % 0, keys[1 - how] % 1, keys[how] % 2, "list all"], cards, sorted_by(0, 1, 2))

    def test_alike_cards_stay_as_they_lay(self):
        cards = [card_of((0, "%d" % (index % 3)), (20, index + 1)) for index in range(30)]
        expected = sorted(cards, key=lambda card: card[0])
        self.assertEqual([card[20] for card in expected][:11], [1, 4, 7, 10, 13, 16, 19, 22, 25, 28, 2])
        self.ordered(["key 0 1 at 0 by holes", "list all"], cards, expected)
        self.ordered(["key 0 1 at 0 by top", "key 0 1 at 5 by holes", "list all"], cards, expected)
        self.ordered(["key 50 10 at 0 by top", "list all"], cards, cards)

    def test_without_keys_all_stay_as_they_lay(self):
        cards = [B_070, A_100, NONE, FIVE_999, A_100]
        self.ordered(["list all"], cards, cards)

    def test_only_meant_cards_are_ordered(self):
        cards = [card_of((0, 5)), card_of((0, 2)), card_of((0, 3)), card_of((0, 4)), card_of((0, 1))]
        self.ordered(["where 0 0 yes", "key 0 1 at 0 by holes", "list all"], cards, [cards[4], cards[2], cards[0]])

    def test_totals_seens_and_list_change_nothing(self):
        lines = ["where 0 0 yes", "key 0 1 at 0 by holes"]
        more = ["sum 40 18 at 0 2", "count at 0 2", "see 0 80 at 0"]
        for last in ("list all", "list first", "list none"):
            self.ordered(lines + more + [last], RUN_CARDS, RUN_ORDER)
            self.ordered(lines + [last], RUN_CARDS, RUN_ORDER)


class Decks(Cases):
    def test_a_deck_of_none(self):
        for lines in (["list all"], RUN, ["where 0 0 no", "list none"], ["key 0 80 at 0 by top", "list all"]):
            self.assertEqual(order(text_of(*lines), []), [0])

    def test_none_is_meant(self):
        self.assertEqual(order(text_of("where 79 11 yes", "list all"), deck_of(RUN_CARDS)), [0])

    def test_cards_without_holes(self):
        self.assertEqual(order(text_of("list all"), [0]), [1, 0])
        self.assertEqual(order(text_of("list all"), [0] * 400), [400] + [0] * 400)
        self.assertEqual(order(text_of("key 0 1 at 0 by top", "list all"), [1, 0, 1, 0, 1, 0, 2, 0]),
                         [4, 0, 0, 1, 0, 1, 1, 0, 2])

    def test_a_card_of_eighty_columns(self):
        full = card_of(*[(column, 4095) for column in range(80)])
        self.ordered(["where 79 11 yes", "list all"], [full, NONE, full], [full, full])

    def test_a_thousand_cards_and_one_more(self):
        self.assertEqual(order(text_of("list all"), [0] * 1000), [1000] + [0] * 1000)
        self.refused([-8], ["list all"], [0] * 1001)
        self.refused([-8], ["list all"], [0] * 1000 + [1, 5, 5])
        self.assertEqual(order(text_of("where 5 0 yes", "list all"), [0] * 999 + [1, 5, 5]), [1, 1, 5, 5])


HUGE = 10 ** 18
NO_DECKS = (
    [-1], [-HUGE], [0, -1], [0, 0, -1, 0], [1, 0, -1], [1, -1, 1], [1, -HUGE, 1], [1, 0, -HUGE], [-1, 0, 1],
    [-2, 0, 1, 0, 1], [1], [1, 0], [2, 0, 1], [2, 0, 1, 1], [80], [81], [HUGE], [1, 0, 1, 1],
    [0, 1, 5], [1, 0, 1, 2, 0, 1, 5],
    [2, 1, 1, 0, 1], [2, 0, 1, 0, 1], [3, 0, 1, 5, 1, 4, 1], [2, 5, 1, 5, 2], [3, 0, 1, 5, 1, 0, 1],
    [1, 80, 1], [1, 81, 1], [1, HUGE, 1], [2, 79, 1, 80, 1],
    [1, 0, 0], [1, 0, 4096], [1, 0, 4097], [1, 0, HUGE], [2, 0, 1, 1, 0], [2, 0, 1, 1, 4096], [0, 0, 1, 79, 8192],
    [1, 0, 1, 1, 80, 1], [HUGE, 0, 1], [200] + [0] * 399, [199] + [1] * 399,
)


class Refusals(Cases):
    def test_numbers_that_are_no_decks(self):
        for numbers in NO_DECKS:
            for lines in (["list all"], RUN):
                self.refused([-8], lines, numbers)

    def test_a_fault_behind_good_cards(self):
        good = deck_of(RUN_CARDS)
        for numbers in NO_DECKS:
            self.refused([-8], RUN, good + numbers)

    def test_numbers_just_within(self):
        for numbers in ([1, 79, 1], [1, 0, 4095], [2, 78, 1, 79, 4095], [0, 1, 0, 1, 0]):
            answer = order(text_of("list all"), numbers)
            self.assertEqual(answer[1:], numbers)

    def test_more_columns_than_a_card_has(self):
        numbers = [81] + [number for column in range(81) for number in (column, 1)]
        self.refused([-8], ["list all"], numbers)
        self.assertEqual(order(text_of("list all"), [80] + numbers[1:161])[0], 1)

    def test_the_texts_refusal_comes_first(self):
        for numbers in NO_DECKS + ([], deck_of(RUN_CARDS)):
            self.assertEqual(order([10] * 4097, numbers), [-1])
            self.assertEqual(order([], numbers), [-6, 3, 0, 0])
            self.refused([-6, 1, 0, 7], ["list al"], numbers)
            self.refused([-6, 2, 1, 0], ["list all", "list all"], numbers)
            self.refused([-6, 3, 5, 0], RUN[:5], numbers)


class HandedIn(unittest.TestCase):
    CALLS = (
        (text_of(*RUN), deck_of(RUN_CARDS)), (text_of("list all"), deck_of(RUN_CARDS)), (text_of("list all"), []),
        (text_of(*RUN), [3, 1]), (text_of("list"), deck_of(RUN_CARDS)), ([7] * 5000, [-1]),
    )

    def test_it_is_the_same_afterwards(self):
        for text, deck in self.CALLS:
            before = (list(text), list(deck))
            order(text, deck)
            self.assertEqual((text, deck), before)

    def test_it_is_not_changed_for_a_while_either(self):
        for text, deck in self.CALLS:
            self.assertEqual(order(Watched(text), Watched(deck)), order(text, deck))

    def test_a_second_call_gives_the_same(self):
        first = [order(text, deck) for text, deck in self.CALLS]
        kept = [list(answer) for answer in first]
        for answer in first:
            self.assertIs(type(answer), list)
            self.assertEqual({type(number) for number in answer}, {int})
            answer.append(99)
        self.assertEqual([order(text, deck) for text, deck in self.CALLS], kept)

    def test_it_prints_nothing(self):
        out = io.StringIO()
        with contextlib.redirect_stdout(out), contextlib.redirect_stderr(out):
            for text, deck in self.CALLS:
                order(text, deck)
        self.assertEqual(out.getvalue(), "")


class AgainstTheWords(unittest.TestCase):
    """Many made reports and decks, always the same ones, against the second telling."""

    def make_report(self, source):
        lines = []
        for turn in range(source.choice([0, 0, 1, 2])):
            lines.append("where %d %d %s" % (source.randrange(4), source.randrange(3), source.choice(["yes", "no"])))
        for turn in range(source.randrange(4)):
            column, length = source.randrange(4), source.randrange(1, 4)
            lines.append("key %d %d at 0 by %s" % (column, length, source.choice(["holes", "top"])))
        return lines + ["list all"]

    def make_card(self, source):
        return card_of(*[(column, source.randrange(8)) for column in range(5)], (70, source.randrange(4096)))

    def test_made_reports(self):
        source = random.Random(5)
        for turn in range(300):
            lines = self.make_report(source)
            cards = [self.make_card(source) for card in range(source.randrange(20))]
            expected = ordered_cards(lines, cards)
            answer = order(text_of(*lines), deck_of(cards))
            self.assertEqual(answer, [len(expected)] + deck_of(expected), lines)


if __name__ == "__main__":
    unittest.main()
