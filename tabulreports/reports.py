"""The calls on reports."""

from tabulreports.cards import NO_DECK, read_deck, tell_deck
from tabulreports.faults import read_report, report_passes
from tabulreports.ordering import meant_in_order


def judge(text):
    """0 and the passes of a report's text, or its refusal."""
    report = read_report(text)
    if report.refusal:
        return report.refusal
    return [0, report_passes(report.parts)]


def order(text, deck):
    """How many cards a report means, then they in its order, as a deck; or the refusal."""
    report = read_report(text)
    if report.refusal:
        return report.refusal
    cards = read_deck(deck)
    if cards is None:
        return [NO_DECK]
    meant = meant_in_order(report.parts, cards)
    return [len(meant)] + tell_deck(meant)
