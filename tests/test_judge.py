"""judge, and with it section 2's forms, fault and passes, and G1."""

import contextlib
import io
import random
import unittest

from making import RUN, Watched, text_of
from tabulreports.reports import judge


def judged(*lines):
    return judge(text_of(*lines))


def judged_raw(raw):
    return judge(list(raw.encode("latin-1")))


class Cases(unittest.TestCase):
    def well(self, passes, *lines):
        with self.subTest(lines=lines):
            self.assertEqual(judged(*lines), [0, passes])

    def fault(self, kind, line, number, *lines):
        with self.subTest(lines=lines):
            self.assertEqual(judged(*lines), [-6, kind, line, number])

    def raw_fault(self, kind, line, number, raw):
        with self.subTest(raw=raw):
            self.assertEqual(judged_raw(raw), [-6, kind, line, number])


class Ordinary(Cases):
    def test_the_run(self):
        self.well(12, *RUN)

    def test_each_list_alone(self):
        for line in ("list all", "list first", "list none"):
            self.well(0, line)

    def test_each_form_before_a_list(self):
        for line in ("where 5 3 yes", "where 5 3 no", "sum 4 5 at 6 7", "count at 6 7", "see 1 2 at 3"):
            self.well(0, line, "list all")
        self.well(36, "key 4 3 at 6 by holes", "list all")
        self.well(3, "key 4 3 at 6 by top", "list first")

    def test_passes_are_added_up(self):
        self.well(12 + 7 + 24, "key 0 1 at 0 by holes", "key 9 7 at 0 by top", "key 3 2 at 9 by holes", "list none")
        self.well(80, "key 0 80 at 0 by top", "list none")
        self.well(240, "key 0 80 at 0 by top", "key 0 80 at 0 by top", "key 0 80 at 0 by top", "list none")

    def test_only_keys_have_passes(self):
        self.well(0, "where 79 11 no", "sum 0 18 at 0 20", "count at 0 20", "see 0 80 at 0", "list first")

    def test_totals_stand_in_any_order(self):
        self.well(0, "count at 0 2", "sum 0 1 at 0 2", "count at 0 2", "list all")

    def test_the_same_line_may_come_again(self):
        self.well(24, "where 1 1 yes", "where 1 1 yes", "key 0 1 at 0 by holes", "key 0 1 at 0 by holes",
                  "see 1 1 at 1", "see 1 1 at 1", "list all")


class TextLength(Cases):
    def test_4096_bytes_are_looked_at(self):
        self.raw_fault(1, 0, 0, "x" * 4096)
        self.raw_fault(1, 1, 5, "list all\n" + "list x" + "y" * 4080 + "\n")

    def test_4097_bytes_are_refused_whatever_they_say(self):
        for raw in ("x" * 4097, "\n" * 4097, "list all\n" * 456):
            self.assertGreater(len(raw), 4096)
            self.assertEqual(judged_raw(raw), [-1])
        self.assertEqual(judge([10] * 65536), [-1])
        self.assertEqual(judge([0] * 65536), [-1])

    def test_lines_up_to_the_last_byte(self):
        raw = "list all\n" * 455
        self.assertEqual(len(raw), 4095)
        self.raw_fault(1, 64, 0, raw)
        self.raw_fault(1, 64, 0, raw + "l")
        self.assertEqual(judged_raw(raw + "li"), [-1])


class LineCount(Cases):
    def test_64_lines_are_not_too_many(self):
        self.fault(2, 16, 0, *["where 0 0 no"] * 64)
        self.fault(2, 1, 0, *["list all"] * 64)

    def test_a_65th_line_is(self):
        self.fault(1, 64, 0, *["where 0 0 no"] * 65)
        self.fault(1, 64, 0, *["list all"] * 66)

    def test_the_65th_has_no_right_bytes_whatever_it_says(self):
        lines = "list all\n" * 64
        for more in ("l", "list all", "x", "\n", "x\nlist all\n"):
            self.raw_fault(1, 64, 0, lines + more)

    def test_the_64th_is_told_by_its_bytes(self):
        self.raw_fault(1, 63, 5, "list all\n" * 63 + "list x\n" + "list all\n")
        self.raw_fault(1, 63, 8, "list all\n" * 63 + "list all")

    def test_a_line_before_the_65th_comes_first(self):
        self.raw_fault(1, 2, 0, "list all\n" * 2 + "\n" + "list all\n" * 80)


class WrongBytes(Cases):
    """Kind 1: how many bytes are right."""

    def test_signs_of_no_line(self):
        self.raw_fault(1, 0, 0, "\n")
        for sign in "xWLC 0\t\r\x00\x80\xff":
            self.raw_fault(1, 0, 0, sign)
            self.raw_fault(1, 0, 0, sign + "list all\n")
            self.raw_fault(1, 0, 8, "list all" + sign + "\n")
            self.raw_fault(1, 1, 0, "list all\n" + sign)

    def test_every_byte_at_the_beginning(self):
        for byte in range(256):
            right = 1 if byte in b"wkscl" else 0
            self.assertEqual(judge([byte]), [-6, 1, 0, right], byte)

    def test_every_byte_behind_a_whole_line(self):
        for byte in range(256):
            answer = judge(list(b"list all") + [byte])
            self.assertEqual(answer, [0, 0] if byte == 10 else [-6, 1, 0, 8], byte)

    def test_every_byte_in_a_number(self):
        for byte in range(256):
            right = 7 if byte in b"0123456789" else 6
            self.assertEqual(judge(list(b"where ") + [byte]), [-6, 1, 0, right], byte)

    def test_words_cut_short(self):
        whole = ["where 12 11 yes", "where 0 0 no", "key 7 1 at 100 by holes", "key 70 80 at 9 by top",
                 "sum 1 18 at 131 20", "count at 0 2", "see 0 1 at 3", "list all", "list first", "list none"]
        for line in whole:
            for end in range(1, len(line) + 1):
                self.raw_fault(1, 0, end, line[:end])
            for end in range(1, len(line)):
                self.raw_fault(1, 0, end, line[:end] + "!" + line[end:] + "\n")

    def test_a_form_is_told_by_the_longest_of_all(self):
        self.raw_fault(1, 0, 2, "surplus\n")
        self.raw_fault(1, 0, 2, "seam\n")
        self.raw_fault(1, 0, 16, "key 0 1 at 0 by none\n")
        self.raw_fault(1, 0, 17, "key 0 1 at 0 by tin\n")
        self.raw_fault(1, 0, 17, "key 0 1 at 0 by help\n")
        self.raw_fault(1, 0, 11, "where 0 0 ny\n")
        self.raw_fault(1, 0, 10, "where 0 0 ay\n")
        self.raw_fault(1, 0, 5, "list yes\n")
        self.raw_fault(1, 0, 6, "list aye\n")
        self.raw_fault(1, 0, 6, "list fall\n")

    def test_the_line_end_is_part_of_the_line(self):
        self.raw_fault(1, 0, 8, "list all")
        self.raw_fault(1, 5, 8, "\n".join(RUN))
        self.raw_fault(1, 0, 13, "where 0 0 yes")
        self.raw_fault(1, 0, 8, "list all\r\n")
        self.raw_fault(1, 0, 4, "list\nall\n")

    def test_needless_noughts(self):
        self.fault(1, 0, 7, "where 00 0 yes", "list all")
        self.fault(1, 0, 7, "where 01 0 yes", "list all")
        self.fault(1, 0, 9, "where 0 00 yes", "list all")
        self.fault(1, 0, 6, "key 0 01 at 0 by top", "list all")
        self.fault(1, 0, 12, "see 0 1 at 01", "list all")
        self.fault(1, 0, 11, "count at 0 02", "list all")

    def test_blanks(self):
        self.fault(1, 0, 6, "where  0 0 yes", "list all")
        self.fault(1, 0, 8, "where 0  0 yes", "list all")
        self.fault(1, 0, 5, "list  all")
        self.fault(1, 0, 8, "list all ")
        self.fault(1, 0, 0, " list all")
        self.fault(1, 0, 4, "list\tall")
        self.fault(1, 0, 4, "listall")
        self.fault(1, 0, 5, "list ")

    def test_signs_before_a_number(self):
        for sign in "-+":
            self.fault(1, 0, 6, "where " + sign + "1 0 yes", "list all")
            self.fault(1, 0, 11, "see 0 1 at " + sign + "1", "list all")

    def test_the_forms_letters_are_no_bytes_of_a_line(self):
        self.fault(1, 0, 6, "where C R yes", "list all")
        self.fault(1, 0, 9, "count at P W", "list all")


class Ranges(Cases):
    """Each number at the ends of its range and beyond: form, letter's range."""

    def holds(self, before, behind, low, high, beyond):
        for number in (low, high):
            with self.subTest(before=before, number=number):
                answer = judged(before + str(number) + behind)
                self.assertNotEqual(answer[:2], [-6, 1])
        for figures, right in beyond:
            self.fault(1, 0, len(before) + right, before + figures + behind)

    def test_columns(self):
        beyond = (("80", 1), ("79.", 2), ("800", 1), ("99", 1), ("100", 2), ("790", 2))
        self.holds("where ", " 0 yes", 0, 79, beyond)
        self.holds("key ", " 1 at 0 by top", 0, 79, beyond)
        self.holds("sum ", " 1 at 0 2", 0, 79, beyond)
        self.holds("see ", " 1 at 0", 0, 79, beyond)

    def test_rows(self):
        beyond = (("12", 1), ("20", 1), ("19", 1), ("110", 2), ("99", 1))
        self.holds("where 0 ", " yes", 0, 11, beyond)
        self.holds("where 0 ", " no", 0, 11, beyond)

    def test_field_lengths(self):
        beyond = (("0", 0), ("81", 1), ("90", 1), ("800", 2), ("100", 2))
        self.holds("key 0 ", " at 0 by holes", 1, 80, beyond)
        self.holds("sum 0 ", " at 0 2", 1, 80, beyond)
        self.holds("see 0 ", " at 0", 1, 80, beyond)

    def test_places(self):
        beyond = (("132", 2), ("140", 2), ("200", 2), ("1310", 3), ("999", 2), ("1000", 3))
        self.holds("key 0 1 at ", " by top", 0, 131, beyond)
        self.holds("sum 0 1 at ", " 2", 0, 131, beyond)
        self.holds("count at ", " 2", 0, 131, beyond)
        self.holds("see 0 1 at ", "", 0, 131, beyond)

    def test_widths(self):
        beyond = (("0", 0), ("1", 1), ("21", 1), ("30", 1), ("100", 2), ("200", 2))
        self.holds("sum 0 1 at 0 ", "", 2, 20, beyond)
        self.holds("count at 0 ", "", 2, 20, beyond)

    def test_every_number_of_each_range_is_taken(self):
        for number in range(80):
            self.well(0, "where %d 0 yes" % number, "list all")
            self.well(number + 1, "key 0 %d at 0 by top" % (number + 1), "list all")
        for number in range(12):
            self.well(0, "where 0 %d no" % number, "list all")
        for number in range(131):
            self.well(0, "count at %d 2" % number, "list all")
        for number in range(2, 21):
            self.well(0, "count at 0 %d" % number, "list all")


class Places(Cases):
    """Kind 2: fields and places."""

    def test_fields_end_at_column_79(self):
        for form, passes in (("key %d %d at 0 by top", True), ("see %d %d at 0", False), ("sum %d %d at 0 2", False)):
            for column, length in ((79, 1), (78, 2), (62, 18)):
                self.well(length if passes else 0, form % (column, length), "list all")
                self.fault(2, 0, 0, form % (column, length + 1), "list all")
        self.well(0, "see 0 80 at 0", "list all")
        self.fault(2, 0, 0, "see 1 80 at 0", "list all")
        self.fault(2, 0, 0, "key 79 2 at 0 by top")

    def test_fields_end_at_place_131(self):
        self.well(0, "see 0 1 at 131", "list none")
        self.well(0, "see 0 80 at 52", "list none")
        self.fault(2, 0, 0, "see 0 2 at 131", "list none")
        self.fault(2, 0, 0, "see 0 80 at 53", "list none")
        self.well(1, "key 0 1 at 131 by top", "list none")
        self.well(20, "key 0 20 at 112 by top", "list none")
        self.fault(2, 0, 0, "key 0 2 at 131 by holes", "list none")
        self.fault(2, 0, 0, "key 0 20 at 113 by top", "list none")

    def test_totals_end_at_place_131(self):
        self.well(0, "count at 130 2", "list all")
        self.well(0, "count at 112 20", "list all")
        self.fault(2, 0, 0, "count at 131 2", "list all")
        self.fault(2, 0, 0, "count at 113 20", "list all")
        self.well(0, "sum 0 1 at 130 2", "list all")
        self.well(0, "sum 0 1 at 112 20", "list all")
        self.fault(2, 0, 0, "sum 0 1 at 131 2", "list all")
        self.fault(2, 0, 0, "sum 0 1 at 113 20", "list all")

    def test_a_sum_is_shown_in_its_places_not_in_its_fields(self):
        self.well(0, "sum 0 18 at 130 2", "list all")

    def test_a_sum_has_18_columns_at_most(self):
        self.well(0, "sum 0 18 at 0 2", "list all")
        self.fault(2, 0, 0, "sum 0 19 at 0 2", "list all")
        self.fault(2, 0, 0, "sum 0 80 at 0 2", "list all")


class Counts(Cases):
    """Kind 2: how many of each sort, and the passes."""

    def test_as_many_of_a_sort_as_may_be_and_one_more(self):
        for line, most in (("where 0 0 yes", 16), ("count at 0 2", 8), ("sum 0 1 at 0 2", 8), ("see 0 1 at 0", 16)):
            self.well(0, *[line] * most, "list all")
            self.fault(2, most, 0, *[line] * (most + 1), "list all")
        self.well(3, *["key 0 1 at 0 by top"] * 3, "list all")
        self.fault(2, 3, 0, *["key 0 1 at 0 by top"] * 4, "list all")
        self.fault(2, 1, 0, "list all", "list all")
        self.fault(2, 1, 0, "list all", "list none")

    def test_a_sorts_forms_are_counted_together(self):
        self.well(0, *["where 0 0 yes", "where 0 0 no"] * 8, "list all")
        self.fault(2, 16, 0, *["where 0 0 yes", "where 0 0 no"] * 9, "list all")
        self.well(0, *["sum 0 1 at 0 2", "count at 0 2"] * 4, "list all")
        self.fault(2, 8, 0, *["sum 0 1 at 0 2", "count at 0 2"] * 5, "list all")
        self.fault(2, 3, 0, *["key 0 1 at 0 by top", "key 0 1 at 0 by holes"] * 2, "list all")

    def test_as_many_of_all_sorts_as_may_be(self):
        lines = ["where 79 11 yes"] * 16 + ["key 0 1 at 131 by holes"] * 3
        lines += ["sum 62 18 at 112 20"] * 8 + ["see 0 80 at 52"] * 16
        self.well(36, *lines, "list first")

    def test_passes_of_250_and_above(self):
        self.well(250, "key 0 20 at 0 by holes", "key 0 10 at 0 by top", "list all")
        self.fault(2, 1, 0, "key 0 20 at 0 by holes", "key 0 11 at 0 by top", "list all")
        self.well(250, "key 0 10 at 0 by top", "key 0 20 at 0 by holes", "list all")
        self.fault(2, 1, 0, "key 0 11 at 0 by top", "key 0 20 at 0 by holes", "list all")
        self.well(250, "key 0 10 at 0 by holes", "key 0 50 at 0 by top", "key 0 80 at 0 by top", "list all")
        self.fault(2, 2, 0, "key 0 10 at 0 by holes", "key 0 51 at 0 by top", "key 0 80 at 0 by top", "list all")
        self.well(240, "key 0 20 at 0 by holes", "list all")
        self.fault(2, 0, 0, "key 0 21 at 0 by holes", "list all")
        self.fault(2, 0, 0, "key 0 22 at 0 by holes")


class Order(Cases):
    """Kind 2: a line behind one of a later sort."""

    LINES = ("where 0 0 yes", "key 0 1 at 0 by top", "count at 0 2", "see 0 1 at 0", "list all")

    def test_each_sort_behind_each_later_one(self):
        for later in range(5):
            for earlier in range(later):
                self.fault(2, 1, 0, self.LINES[later], self.LINES[earlier], "list all")
                self.fault(2, 1, 0, self.LINES[later], self.LINES[earlier])

    def test_not_only_right_behind(self):
        self.fault(2, 2, 0, "where 0 0 yes", "see 0 1 at 0", "key 0 1 at 0 by top", "see 0 1 at 0", "list all")

    def test_sorts_may_be_left_out(self):
        for first in range(5):
            for second in range(first + 1, 5):
                passes = 1 if 1 in (first, second) else 0
                lines = [self.LINES[first], self.LINES[second]]
                self.well(passes, *lines[:1 if second == 4 else 2], "list first")

    def test_nothing_behind_a_list(self):
        for line in self.LINES:
            self.fault(2, len(RUN), 0, *RUN, line)


class LastLine(Cases):
    """Kind 3."""

    def test_no_line(self):
        self.assertEqual(judge([]), [-6, 3, 0, 0])

    def test_a_last_line_that_is_no_lists(self):
        for count, line in ((1, "where 0 0 no"), (2, "key 0 1 at 0 by top"), (3, "sum 0 1 at 0 2"),
                            (8, "count at 0 2"), (16, "see 0 1 at 0")):
            self.fault(3, count, 0, *[line] * count)
        self.fault(3, 5, 0, *RUN[:5])


class SeveralFaults(Cases):
    def test_a_text_too_long_before_its_fault(self):
        self.assertEqual(judged_raw("x" * 5000), [-1])

    def test_kind_1_before_kind_2_of_an_earlier_line(self):
        self.fault(1, 2, 0, "list all", "list all", "x")
        self.fault(1, 1, 5, "see 1 80 at 131", "list x")
        self.raw_fault(1, 2, 8, "list all\nlist all\nlist all")

    def test_kind_1_before_kind_3(self):
        self.fault(1, 0, 13, "where 0 0 yes!", "where 0 0 yes")

    def test_the_first_of_kind_1(self):
        self.fault(1, 1, 3, "list all", "lis", "x", "list all")

    def test_the_first_of_kind_2(self):
        self.fault(2, 1, 0, "see 0 1 at 0", "see 1 80 at 0", "where 0 0 yes", "list all", "list all")
        self.fault(2, 1, 0, "see 0 1 at 0", "where 0 0 yes", "see 1 80 at 0", "list all", "list all")
        self.fault(2, 0, 0, "key 0 80 at 0 by holes", "key 0 80 at 0 by holes", "list all")

    def test_kind_2_before_kind_3(self):
        self.fault(2, 1, 0, "see 0 1 at 0", "count at 0 2")
        self.fault(2, 0, 0, "sum 0 19 at 0 2")


class HandedIn(unittest.TestCase):
    TEXTS = ([], text_of(*RUN), text_of("list al"), text_of("see 1 80 at 0"), text_of("see 1 1 at 0"), [7] * 5000)

    def test_it_is_the_same_afterwards(self):
        for text in self.TEXTS:
            before = list(text)
            judge(text)
            self.assertEqual(text, before)

    def test_it_is_not_changed_for_a_while_either(self):
        for text in self.TEXTS:
            self.assertEqual(judge(Watched(text)), judge(list(text)))

    def test_a_second_call_gives_the_same(self):
        first = [judge(text) for text in self.TEXTS]
        for answer in first:
            self.assertIs(type(answer), list)
        kept = [list(answer) for answer in first]
        for answer in first:
            answer.append(99)
        self.assertEqual([judge(text) for text in self.TEXTS], kept)

    def test_it_prints_nothing(self):
        out, err = io.StringIO(), io.StringIO()
        with contextlib.redirect_stdout(out), contextlib.redirect_stderr(err):
            for text in self.TEXTS:
                judge(text)
        self.assertEqual(out.getvalue() + err.getvalue(), "")


NUMBERS = {"C": range(0, 80), "R": range(0, 12), "N": range(1, 81), "P": range(0, 132), "W": range(2, 21)}
FORMS = ("where C R yes|no", "key C N at P by holes|top", "sum C N at P W", "count at P W", "see C N at P",
         "list all|first|none")


def word_choices(word):
    return [str(number) for number in NUMBERS[word]] if word in NUMBERS else word.split("|")


def right_bytes(raw):
    """The longest beginning of raw that some line begins with: all lines gone through at once, word by word."""
    best = 0
    for form in FORMS:
        beginnings = {""}
        words = form.split(" ")
        for index, word in enumerate(words):
            end = "\n" if index == len(words) - 1 else " "
            longer = {b + c + end for b in beginnings for c in word_choices(word)}
            for candidate in longer:
                while not raw.startswith(candidate):
                    candidate = candidate[:-1]
                best = max(best, len(candidate))
            beginnings = {candidate for candidate in longer if raw.startswith(candidate)}
    return best


def told(raw):
    """The answer for a text, after the document's words, by other means than the package's."""
    if len(raw) > 4096:
        return [-1]
    lines = [line for line in raw.replace("\n", "\n\0").split("\0") if line]
    for index, line in enumerate(lines):
        if index == 64:
            return [-6, 1, 64, 0]
        if not line.endswith("\n") or right_bytes(line) < len(line):
            return [-6, 1, index, right_bytes(line)]
    passes = 0
    for index, line in enumerate(lines):
        words = line.split()
        number = [int(word) for word in words if word.isdigit()]
        firsts = [other.split()[0].replace("count", "sum") for other in lines[:index + 1]]
        sorts = ["where", "key", "sum", "see", "list"]
        bad = firsts.count(firsts[-1]) > [16, 3, 8, 16, 1][sorts.index(firsts[-1])]
        bad = bad or any(sorts.index(first) > sorts.index(firsts[-1]) for first in firsts)
        if words[0] in ("key", "sum", "see"):
            bad = bad or number[0] + number[1] > 80
        if words[0] in ("key", "see"):
            bad = bad or number[1] + number[2] > 132
        if words[0] in ("sum", "count"):
            bad = bad or number[-2] + number[-1] > 132
        if words[0] == "sum":
            bad = bad or number[1] > 18
        if words[0] == "key":
            passes += number[1] * (12 if words[-1] == "holes" else 1)
        if bad or passes > 250:
            return [-6, 2, index, 0]
    if not lines or not lines[-1].startswith("list"):
        return [-6, 3, len(lines), 0]
    return [0, passes]


class AgainstTheWords(unittest.TestCase):
    """Many made texts, always the same ones, against told."""

    def make_line(self, source, form):
        # Mostly small numbers, so that most texts have no fault for their fields and places.
        most = 3 if source.random() < 0.95 else 200
        words = [source.choice(word_choices(word)[:most]) for word in form.split(" ")]
        return " ".join(words) + "\n"

    def make_text(self, source):
        lines = []
        for form in FORMS[:-1]:
            lines += [self.make_line(source, form) for turn in range(source.choice([0, 0, 1, 1, 2]))]
        lines += [self.make_line(source, FORMS[-1]) for turn in range(source.choice([0, 1, 1, 1, 1, 1, 1, 2]))]
        if lines and source.random() < 0.2:
            lines.insert(source.randrange(len(lines)), lines.pop(source.randrange(len(lines))))
        return "".join(lines)

    def spoil(self, source, raw):
        at = source.randrange(len(raw) + 1)
        rest = raw[at + source.choice([0, 1, 1, 2]):]
        return raw[:at] + source.choice(["", " ", "0", "1", "9", "\n", "n", "t", "\xe4"]) + rest

    def test_made_texts(self):
        source = random.Random(2)
        kinds = {}
        for turn in range(600):
            raw = self.make_text(source)
            if turn % 3 == 0:
                raw = self.spoil(source, raw)
            answer = judged_raw(raw)
            self.assertEqual(answer, told(raw), raw)
            kind = tuple(answer[:2]) if answer[0] else (0,)
            kinds[kind] = kinds.get(kind, 0) + 1
        self.assertEqual(sorted(kinds), [(-6, 1), (-6, 2), (-6, 3), (0,)])
        self.assertGreater(min(kinds.values()), 20, kinds)

    def test_every_text_is_a_reports_or_has_one_fault(self):
        source = random.Random(3)
        for turn in range(600):
            text = [source.choice(list(b" 0123456789\nwherkysumcotlif")) for byte in range(source.randrange(40))]
            if turn % 2:
                text = list(self.spoil(source, self.make_text(source)).encode("latin-1"))
            answer = judge(text)
            if answer[0] == 0:
                self.assertEqual(len(answer), 2)
                self.assertIn(answer[1], range(251))
            else:
                self.assertEqual(len(answer), 4)
                self.assertEqual(answer[0], -6)
                self.assertIn(answer[1], (1, 2, 3))
                self.assertGreaterEqual(min(answer[2:]), 0)


if __name__ == "__main__":
    unittest.main()
