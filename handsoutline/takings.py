"""The calls that take a desk's own deeds back and do them again: back, undo, redo."""

from handsoutline.deeds import DoingAgain, TakingBack, is_change, is_in_reach
from handsoutline.holding import holding
from handsoutline.refusals import FULL, NOT_THERE, NO_DESK, TOO_LATE
from handsoutline.state import do_deed, had, has_desk, is_full, next_count


def back(house, desk, deed):
    if not has_desk(house, desk):
        return [NO_DESK]
    if deed >= len(house.deeds) or not is_own_change(house.deeds[deed], desk):
        return [NOT_THERE]
    if deed not in numbers_held(house, desk) or is_too_late(house, desk, deed):
        return [TOO_LATE]
    if is_full(house):
        return [FULL]
    return [do_deed(house, desk, TakingBack(deed))]


def undo(house, desk):
    if not has_desk(house, desk):
        return [NO_DESK]
    own = [deed.number for deed in holding(had(house, desk)) if is_own_change(deed, desk)]
    if len(own) == 0:
        return [NOT_THERE]
    if is_too_late(house, desk, own[-1]):
        return [TOO_LATE]
    if is_full(house):
        return [FULL]
    do_deed(house, desk, TakingBack(own[-1]))
    return [own[-1]]


def redo(house, desk):
    if not has_desk(house, desk):
        return [NO_DESK]
    deed = taken_last(house, desk)
    if deed is None:
        return [NOT_THERE]
    if is_too_late(house, desk, deed):
        return [TOO_LATE]
    if is_full(house):
        return [FULL]
    do_deed(house, desk, DoingAgain(deed))
    return [deed]


def taken_last(house, desk):
    held = numbers_held(house, desk)
    own = [deed for deed in had(house, desk) if deed.desk == desk]
    for deed in reversed(own):
        if is_change(deed):
            # What was taken back before the desk went on with something new stays so.
            return None
        if isinstance(deed.act, TakingBack) and deed.act.deed not in held:
            return deed.act.deed
    return None


def is_own_change(deed, desk):
    return deed.desk == desk and is_change(deed)


def numbers_held(house, desk):
    return [deed.number for deed in holding(had(house, desk))]


def is_too_late(house, desk, deed):
    return not is_in_reach(next_count(house, desk), house.deeds[deed])
