"""The calls on reports."""

from tabulreports.cards import NO_DECK, read_deck, tell_deck
from tabulreports.faults import read_report, report_passes
from tabulreports.lines import NO_SIGNS, read_signs
from tabulreports.meaning import NOT_MET, meant_paper
from tabulreports.ordering import meant_in_order
from tabulreports.plans import make_plan, tell_plan
from tabulreports.room import room_of, run_job
from tabulreports.rows import join_rows


def judge(text):
    """0 and the passes of a report's text, or its refusal."""
    report = read_report(text)
    if report.refusal:
        return report.refusal
    return [0, report_passes(report.parts)]


def order(text, deck):
    """How many cards a report means, then they in its order, as a deck; or the refusal."""
    report = read_report(text)
    if report.refusal:
        return report.refusal
    cards = read_deck(deck)
    if cards is None:
        return [NO_DECK]
    meant = meant_in_order(report.parts, cards)
    return [len(meant)] + tell_deck(meant)


def paper(strange, text, legend, deck):
    """How many lines the paper has that a report means of a deck, then they; or the refusal."""
    report = read_report(text)
    if report.refusal:
        return report.refusal
    signs = read_signs(strange, legend)
    if signs is None:
        return [NO_SIGNS]
    cards = read_deck(deck)
    if cards is None:
        return [NO_DECK]
    lines = meant_paper(report.parts, meant_in_order(report.parts, cards), signs)
    if lines is None:
        return [NOT_MET]
    return [len(lines)] + join_rows(lines)


def plan(strange, text, legend):
    """A report's plan: its passes, its panel, its setup's numbers and its job; or the refusal."""
    report = read_report(text)
    if report.refusal:
        return report.refusal
    signs = read_signs(strange, legend)
    if signs is None:
        return [NO_SIGNS]
    return tell_plan(make_plan(report.parts, signs))


def planned(strange, text, legend, deck):
    """What the plan's job does: its lines that are done, what's wrong, the paper; or the refusal."""
    report = read_report(text)
    if report.refusal:
        return report.refusal
    signs = read_signs(strange, legend)
    if signs is None:
        return [NO_SIGNS]
    cards = read_deck(deck)
    if cards is None:
        return [NO_DECK]
    made = make_plan(report.parts, signs)
    room = room_of(made, cards)
    return run_job(room, made.job) + join_rows(room.paper)
