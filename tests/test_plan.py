"""plan, and with it section 3's panel, setup and job, as the appendices A, B and D write them."""

import contextlib
import io
import random
import re
import unittest

from cases import LEGEND, MET, NOT_MET, STRANGE
from made import make_long_report
from making import RUN, Watched, text_of
from second import plan_pieces
from tabulreports.reports import judge, plan


def pieces_of(answer):
    """The five pieces of an answer, the texts as texts; their lengths are as told, and nothing's behind them."""
    pieces = []
    at = 1
    while at < len(answer):
        pieces.append(answer[at + 1:at + 1 + answer[at]])
        if len(pieces[-1]) != answer[at]:
            raise AssertionError("a piece is shorter than told")
        at += 1 + answer[at]
    if len(pieces) != 5:
        raise AssertionError("%d pieces" % len(pieces))
    return bytes(pieces[0]).decode("ascii"), pieces[1], pieces[2], pieces[3], bytes(pieces[4]).decode("ascii")


def planned_pieces(*lines):
    return pieces_of(plan(STRANGE, text_of(*lines), LEGEND))


def panel_of(*lines):
    return planned_pieces(*lines)[0].split("\n")[:-1]


def job_of(*lines):
    return planned_pieces(*lines)[4].split("\n")[:-1]


def sixes(numbers):
    return [tuple(numbers[at:at + 6]) for at in range(0, len(numbers), 6)]


HOLES = [1, 2, 4, 8, 16, 32, 64, 128, 256, 512, 1024, 2048]
KEYS = ["key 5 2 at 7 by top", "key 0 1 at 20 by holes", "key 70 10 at 122 by top"]
TOTALS = ["sum 40 18 at 0 20", "count at 30 2", "sum 1 1 at 3 4"]


class Run(unittest.TestCase):
    def test_the_run_number_by_number(self):
        panel = b"read 0 > look 0\nhole 0 0 > by 16\nsend 1 > other 16\nchosen 16 > to 0\n"
        job = b"choose A 0 > B C\npass C 0 1 > C\npass C 0 2 > C\npass C 0 4 > C\npass C 0 8 > C\npass C 0 16 > C\n" \
            b"pass C 0 32 > C\npass C 0 64 > C\npass C 0 128 > C\npass C 0 256 > C\npass C 0 512 > C\n" \
            b"pass C 0 1024 > C\npass C 0 2048 > C\naccount C 0 1 > D\n"
        counters = [1, 0, 1, 3, 0, 0, 1, 2, 0, 0, 0, 0, 4, 0, 1, 3, 0, 0, 4, 2, 0, 0, 0, 0]
        things = [0, 0, 0, 4, 0, 0,
                  1, 0, 0, 1, 0, 0, 1, 1, 0, 0, 10, 8, 1, 1, 1, 0, 20, 4,
                  4, 1, 2, 0, 10, 8, 4, 1, 3, 0, 20, 4]
        self.assertEqual((len(panel), len(job)), (68, 230))
        self.assertEqual(plan(63, text_of(*RUN), LEGEND), (
            [12] + [68] + list(panel) + [9] + [0, 1, 0, 0, 0, 0, 1, 0, 63] + [24] + counters + [36] + things
            + [230] + list(job)))


class Panels(unittest.TestCase):
    def test_without_wheres(self):
        self.assertEqual(panel_of("list all"), ["send 1 > to 0"])
        self.assertEqual(panel_of(*RUN[1:]), ["send 1 > to 0"])

    def test_one_where(self):
        self.assertEqual(panel_of("where 79 11 yes", "list all"), [
            "read 79 > look 0", "hole 0 11 > by 16", "send 1 > other 16", "chosen 16 > to 0"])
        self.assertEqual(panel_of("where 7 3 no", "list all"), [
            "read 7 > look 0", "hole 0 3 > by 0", "send 1 > plain 0", "chosen 0 > by 16", "send 1 > other 16",
            "chosen 16 > to 0"])

    def test_several_of_both_kinds(self):
        self.assertEqual(panel_of("where 1 2 no", "where 3 4 yes", "where 3 4 no", "list none"), [
            "read 1 > look 0", "hole 0 2 > by 0", "send 1 > plain 0", "chosen 0 > by 16", "send 1 > other 16",
            "read 3 > look 1", "hole 1 4 > by 17", "chosen 16 > other 17",
            "read 3 > look 2", "hole 2 4 > by 2", "send 1 > plain 2", "chosen 2 > by 18", "chosen 17 > other 18",
            "chosen 18 > to 0"])

    def test_sixteen(self):
        yes = panel_of(*["where %d 5 yes" % column for column in range(16)], "list all")
        self.assertEqual(len(yes), 16 * 3 + 1)
        self.assertEqual(yes[-4:], [
            "read 15 > look 15", "hole 15 5 > by 31", "chosen 30 > other 31", "chosen 31 > to 0"])
        no = panel_of(*["where %d 5 no" % column for column in range(16)], "list all")
        self.assertEqual(len(no), 16 * 5 + 1)
        self.assertEqual(no[-6:], ["read 15 > look 15", "hole 15 5 > by 15", "send 1 > plain 15", "chosen 15 > by 31",
                                   "chosen 30 > other 31", "chosen 31 > to 0"])


class Jobs(unittest.TestCase):
    FIRST, LAST = "choose A 0 > B C", "account C 0 1 > D"

    def test_without_keys(self):
        self.assertEqual(job_of("list all"), [self.FIRST, self.LAST])
        self.assertEqual(job_of("where 0 0 yes", "count at 0 2", "see 0 1 at 0", "list none"), [self.FIRST, self.LAST])

    def test_one_key_by_top(self):
        self.assertEqual(job_of("key 79 1 at 0 by top", "list all"), [self.FIRST, "pass C 79 4095 > C", self.LAST])
        self.assertEqual(job_of("key 9 3 at 0 by top", "list all"), [
            self.FIRST, "pass C 11 4095 > C", "pass C 10 4095 > C", "pass C 9 4095 > C", self.LAST])

    def test_one_key_by_holes(self):
        passes = ["pass C %d %d > C" % (column, rows) for column in (6, 5) for rows in HOLES]
        self.assertEqual(job_of("key 5 2 at 0 by holes", "list all"), [self.FIRST] + passes + [self.LAST])

    def test_several_keys_from_the_last_to_the_first(self):
        expected = ["pass C %d 4095 > C" % column for column in range(79, 69, -1)]
        expected += ["pass C 0 %d > C" % rows for rows in HOLES]
        expected += ["pass C 6 4095 > C", "pass C 5 4095 > C"]
        self.assertEqual(job_of(*KEYS, "list all"), [self.FIRST] + expected + [self.LAST])
        self.assertEqual(job_of(*KEYS[:2], "list all"), [self.FIRST] + expected[10:] + [self.LAST])

    def test_as_many_passes_as_may_be(self):
        lines = ["key 0 20 at 0 by holes", "key 0 10 at 0 by top", "list all"]
        self.assertEqual(len(job_of(*lines)), 252)
        self.assertEqual(plan(STRANGE, text_of(*lines), LEGEND)[0], 250)


class Setups(unittest.TestCase):
    def test_the_head_has_the_last_keys_field_first(self):
        fields = [5, 2], [0, 1], [70, 10]
        for count in range(4):
            numbers = [number for field in fields[:count][::-1] for number in field]
            head = planned_pieces(*KEYS[:count], "list all")[1]
            self.assertEqual(head, numbers + [0] * (6 - len(numbers)) + [1, 0, STRANGE])

    def test_the_heads_list_and_strange(self):
        for number, word in enumerate(("none", "all", "first")):
            for strange in (0, 255):
                answer = plan(strange, text_of("list " + word), LEGEND)
                self.assertEqual(pieces_of(answer)[1], [0, 0, 0, 0, 0, 0, number, 0, strange])

    def test_without_keys_and_totals(self):
        self.assertEqual(planned_pieces("list all")[2:4], ([], []))
        self.assertEqual(planned_pieces("see 3 4 at 5", "list all")[2:4], ([], [0, 0, 3, 4, 5, 0]))

    def test_totals_without_keys(self):
        head, counters, things = planned_pieces(*TOTALS, "list all")[1:4]
        self.assertEqual(sixes(counters), [(4, 0, 40, 18, 0, 0), (4, 2, 0, 0, 0, 0), (4, 0, 1, 1, 0, 0)])
        self.assertEqual(sixes(things), [(4, 1, 0, 0, 0, 20), (4, 1, 1, 0, 30, 2), (4, 1, 2, 0, 3, 4)])

    def test_keys_without_totals(self):
        first, second, third = (5, 2, 7), (0, 1, 20), (70, 10, 122)
        def shown(level, *keys):
            return [(level, 0) + key + (0,) for key in keys]
        self.assertEqual(sixes(planned_pieces(*KEYS[:1], "list all")[3]), shown(1, first))
        self.assertEqual(sixes(planned_pieces(*KEYS[:2], "list all")[3]), shown(1, first, second) + shown(2, first))
        self.assertEqual(sixes(planned_pieces(*KEYS, "list all")[3]),
                         shown(1, first, second, third) + shown(2, first, second) + shown(3, first))
        self.assertEqual(planned_pieces(*KEYS, "list all")[2], [])

    def test_several_levels_and_several_totals(self):
        counters, things = planned_pieces(*KEYS[:2], *TOTALS[:2], "see 1 2 at 3", "see 4 5 at 6", "list first")[2:4]
        self.assertEqual(sixes(counters), [
            (1, 0, 40, 18, 0, 0), (1, 2, 0, 0, 0, 0), (2, 0, 40, 18, 0, 0), (2, 2, 0, 0, 0, 0),
            (4, 0, 40, 18, 0, 0), (4, 2, 0, 0, 0, 0)])
        self.assertEqual(sixes(things), [
            (0, 0, 1, 2, 3, 0), (0, 0, 4, 5, 6, 0),
            (1, 0, 5, 2, 7, 0), (1, 0, 0, 1, 20, 0), (1, 1, 0, 0, 0, 20), (1, 1, 1, 0, 30, 2),
            (2, 0, 5, 2, 7, 0), (2, 1, 2, 0, 0, 20), (2, 1, 3, 0, 30, 2),
            (4, 1, 4, 0, 0, 20), (4, 1, 5, 0, 30, 2)])

    def test_as_many_of_each_as_may_be(self):
        seens = ["see %d 1 at %d" % (index, 16 - index) for index in range(16)]
        counts = ["count at %d 9" % index for index in range(8)]
        counters, things = planned_pieces(*KEYS, *counts, *seens, "list all")[2:4]
        self.assertEqual([six[0] for six in sixes(counters)], [1] * 8 + [2] * 8 + [3] * 8 + [4] * 8)
        self.assertEqual(len(sixes(things)), 16 + 3 + 8 + 2 + 8 + 1 + 8 + 8)
        self.assertEqual(sixes(things)[:16], [(0, 0, index, 1, 16 - index, 0) for index in range(16)])
        self.assertEqual(sixes(things)[-8:], [(4, 1, 24 + index, 0, index, 9) for index in range(8)])
        self.assertEqual(sixes(things)[-16:-8], [(3, 1, 16 + index, 0, index, 9) for index in range(8)])
        self.assertEqual(sixes(things)[-17], (3, 0, 5, 2, 7, 0))


class Refusals(unittest.TestCase):
    TEXT = text_of(*RUN)

    def test_legend_and_strange(self):
        for legend in ([], LEGEND[:63], LEGEND + [200], LEGEND[:63] + LEGEND[:1], [0] * 1000, list(range(256))):
            self.assertEqual(plan(STRANGE, self.TEXT, legend), [-2])
        for strange in (-1, 256, 10 ** 18, -10 ** 18):
            self.assertEqual(plan(strange, self.TEXT, LEGEND), [-2])

    def test_the_texts_refusal_comes_first(self):
        for strange in (STRANGE, -1):
            for legend in (LEGEND, LEGEND[1:]):
                self.assertEqual(plan(strange, [10] * 4097, legend), [-1])
                self.assertEqual(plan(strange, [], legend), [-6, 3, 0, 0])
                self.assertEqual(plan(strange, text_of("list al"), legend), [-6, 1, 0, 7])
                self.assertEqual(plan(strange, text_of("key 0 22 at 0 by holes"), legend), [-6, 2, 0, 0])


class HandedIn(unittest.TestCase):
    CALLS = (
        (STRANGE, text_of(*RUN), LEGEND), (0, text_of("list all"), LEGEND),
        (STRANGE, text_of(*KEYS, "list none"), LEGEND), (STRANGE, text_of(*RUN), LEGEND[1:]),
        (256, text_of(*RUN), LEGEND), (STRANGE, text_of("list"), LEGEND),
    )

    def test_it_is_the_same_afterwards(self):
        for strange, text, legend in self.CALLS:
            before = (list(text), list(legend))
            plan(strange, text, legend)
            self.assertEqual((text, legend), before)

    def test_it_is_not_changed_for_a_while_either(self):
        for strange, text, legend in self.CALLS:
            self.assertEqual(plan(strange, Watched(text), Watched(legend)), plan(strange, text, legend))

    def test_a_second_call_gives_the_same(self):
        first = [plan(*call) for call in self.CALLS]
        kept = [list(answer) for answer in first]
        for answer in first:
            self.assertIs(type(answer), list)
            self.assertEqual({type(number) for number in answer}, {int})
            answer[:] = [99] * 300
        self.assertEqual([plan(*call) for call in self.CALLS], kept)

    def test_it_prints_nothing(self):
        out = io.StringIO()
        with contextlib.redirect_stdout(out), contextlib.redirect_stderr(out):
            for call in self.CALLS:
                plan(*call)
        self.assertEqual(out.getvalue(), "")


class AgainstTheWords(unittest.TestCase):
    def test_the_reports_of_papers(self):
        for name, case in list(MET.items()) + list(NOT_MET.items()):
            with self.subTest(name):
                self.assertEqual(planned_pieces(*case[0]), plan_pieces(STRANGE, case[0]))

    def test_made_reports(self):
        source = random.Random(11)
        for turn in range(300):
            lines = make_long_report(source)
            answer = plan(turn % 256, text_of(*lines), LEGEND)
            self.assertEqual(answer[0], judge(text_of(*lines))[1])
            self.assertEqual(pieces_of(answer), plan_pieces(turn % 256, lines), lines)
            self.check_panel(pieces_of(answer)[0])
            self.check_job(pieces_of(answer)[4])
            self.check_setup(*pieces_of(answer)[1:4])

    def check_panel(self, text):
        """Each line is a wire, and no two lead to one hub."""
        wires = text.split("\n")[:-1]
        self.assertLessEqual(len(wires), 256)
        for wire in wires:
            self.assertRegex(wire, r"^(read|send|hole \d+|chosen) \d+ > (to|look|by|plain|other) \d+$")
            self.assertLessEqual(max(int(number) for number in re.findall(r"\d+", wire)), 79)
        taking = [wire.split(" > ")[1] for wire in wires]
        self.assertEqual(len(taking), len(set(taking)))

    def check_job(self, text):
        lines = text.split("\n")[:-1]
        self.assertLessEqual(len(lines), 256)
        for line in lines[1:-1]:
            self.assertRegex(line, r"^pass C \d+ \d+ > C$")

    def check_setup(self, head, counters, things):
        """It's as it should be by appendix B."""
        self.assertEqual(len(head), 9)
        self.assertLessEqual(len(sixes(counters)), 32)
        self.assertLessEqual(len(sixes(things)), 64)
        for level, how, column, length, when, hub in sixes(counters):
            self.assertIn(level, (1, 2, 3, 4))
            self.assertTrue((how == 2 and column == length == 0) or (how == 0 and 1 <= length <= 18))
            self.assertEqual((when, hub), (0, 0))
        for line, what, a, length, at, width in sixes(things):
            self.assertIn(line, (0, 1, 2, 3, 4))
            if what == 0:
                self.assertTrue(1 <= length <= 80 - a and width == 0 and at + length <= 132)
            else:
                self.assertTrue(what == 1 and length == 0 and 2 <= width <= 20 and at + width <= 132)
                self.assertLess(a, len(sixes(counters)))
                self.assertEqual(sixes(counters)[a][0], line)


if __name__ == "__main__":
    unittest.main()
