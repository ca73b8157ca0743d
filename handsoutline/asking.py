"""The calls that ask about the outline: tree, row, line, values, amounts, find, same."""

from handsoutline.fields import LAST_FIELD, amount_of, tellings_of
from handsoutline.outline import outline_of, refusal_about, things_in_row, within
from handsoutline.refusals import NOT_REFUSED, NO_DESK, WRONG
from handsoutline.state import has_desk
from handsoutline.tree import ROOT, line_up


def ask_tree(house, desk, thing):
    refusal = refusal_about(house, desk, thing)
    if refusal != NOT_REFUSED:
        return [refusal]
    return counted_pairs(within(outline_of(house, desk), thing))


def ask_row(house, desk, thing):
    refusal = refusal_about(house, desk, thing)
    if refusal != NOT_REFUSED:
        return [refusal]
    return counted(things_in_row(outline_of(house, desk), thing))


def ask_line(house, desk, thing):
    refusal = refusal_about(house, desk, thing)
    if refusal != NOT_REFUSED:
        return [refusal]
    return counted(line_up(outline_of(house, desk).places, thing))


def ask_values(house, desk, thing, field):
    refusal = refusal_about(house, desk, thing)
    if refusal != NOT_REFUSED:
        return [refusal]
    if field > LAST_FIELD:
        return [WRONG]
    tellings = tellings_of(outline_of(house, desk).held, thing, field)
    return counted_pairs([(deed.number, deed.act.value) for deed in tellings])


def ask_amounts(house, desk, thing):
    refusal = refusal_about(house, desk, thing)
    if refusal != NOT_REFUSED:
        return [refusal]
    outline = outline_of(house, desk)
    inner = [amount_of(outline.held, pair[0]) for pair in within(outline, thing)]
    own = amount_of(outline.held, thing)
    return [len(inner), own, own + sum(inner)]


def ask_find(house, desk, field, value):
    if not has_desk(house, desk):
        return [NO_DESK]
    if field > LAST_FIELD:
        return [WRONG]
    outline = outline_of(house, desk)
    things = [pair[0] for pair in within(outline, ROOT)]
    return counted([thing for thing in things if has_value(outline.held, thing, field, value)])


def has_value(held, thing, field, value):
    return value in [deed.act.value for deed in tellings_of(held, thing, field)]


def ask_same(house, desk, other):
    if not has_desk(house, desk) or not has_desk(house, other):
        return [NO_DESK]
    same_counts = house.desks[desk].counts == house.desks[other].counts
    same_tree = within(outline_of(house, desk), ROOT) == within(outline_of(house, other), ROOT)
    return [1 if same_counts else 0, 1 if same_tree else 0]


def counted(numbers):
    return [len(numbers)] + numbers


def counted_pairs(pairs):
    told = [len(pairs)]
    for pair in pairs:
        told.extend(pair)
    return told
