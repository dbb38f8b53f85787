"""A report's parts by their sorts, each sort in the order of its lines."""


def wheres_of(parts):
    """The wheres among the parts."""
    return [part for part in parts if part.word == "where"]


def keys_of(parts):
    """The keys among the parts, the one of the greatest level first."""
    return [part for part in parts if part.word == "key"]


def totals_of(parts):
    """The sums and counts among the parts."""
    return [part for part in parts if part.word == "sum" or part.word == "count"]


def seens_of(parts):
    """The seens among the parts."""
    return [part for part in parts if part.word == "see"]


def listing_of(parts):
    """What the report's last line says of cards' lines: all, first or none."""
    return parts[-1].ending
