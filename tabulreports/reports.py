"""The calls on reports."""

from tabulreports.faults import read_report, report_passes


def judge(text):
    """0 and the passes of a report's text, or its refusal."""
    report = read_report(text)
    if report.refusal:
        return report.refusal
    return [0, report_passes(report.parts)]
