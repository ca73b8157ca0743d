"""Spots: their order under something, and where a new one is made."""

from handsoutline.deeds import BEGINNING, LEFT, RIGHT, Put


# All puts, not those alone that hold: spots stay where deeds are taken back.
def puts_under(deeds, under):
    return [deed for deed in deeds if isinstance(deed.act, Put) and deed.act.under == under]


def spots_under(deeds, under):
    lefts = {}
    rights = {}
    # What is at a spot has a later stamp than that spot, so from the last stamp on
    # each spot's own sides are whole when it is laid to the one that it's at.
    for put in reversed(puts_under(deeds, under)):
        whole = lefts.get(put.number, []) + [put] + rights.get(put.number, [])
        if put.act.side == LEFT:
            lefts[put.act.at] = whole + lefts.get(put.act.at, [])
        else:
            rights[put.act.at] = whole + rights.get(put.act.at, [])
    return rights.get(BEGINNING, [])


# The one that comes next has nothing to its left, so a spot there is between it and this one.
def right_behind(deeds, under, spot):
    if not has_right(deeds, under, spot):
        return (spot, RIGHT)
    numbers = [BEGINNING] + [put.number for put in spots_under(deeds, under)]
    return (numbers[numbers.index(spot) + 1], LEFT)


def has_right(deeds, under, spot):
    return any([put.act.at == spot and put.act.side == RIGHT for put in puts_under(deeds, under)])
