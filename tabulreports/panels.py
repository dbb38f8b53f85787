"""What goes through a plan's panel for a card."""

from tabulreports.cards import code_holes, row_holes


def what_goes_into(hub, taken):
    """What a hub that takes has got: nothing, where no wire leads to it."""
    return taken.get(hub, 0)


def what_is_sent(hub, card, taken):
    """What a hub sends for a card, by what the hubs that take have got."""
    word = hub[0]
    number = hub[1]
    if word == "read":
        return card[number]
    if word == "send":
        return code_holes(number)
    if word == "hole":
        return what_goes_into(("look", number), taken) & row_holes(hub[2])
    # What's left is chosen: a plan has no other hubs that send.
    if what_goes_into(("by", number), taken):
        return what_goes_into(("other", number), taken)
    return what_goes_into(("plain", number), taken)


def is_chosen(panel, card):
    """Whether something goes into the hub by which the selector chooses a card."""
    taken = {}
    # A plan's wires to a box all stand before those from it: so one walk is enough.
    for sends, takes in panel:
        taken[takes] = what_is_sent(sends, card, taken)
    return what_goes_into(("to", 0), taken) != 0
