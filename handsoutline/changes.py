"""The calls that begin a house and that change its outline: begin, make, move, tell, clear, add, less."""

from handsoutline.deeds import BEGINNING, Adding, Clearing, Put, Telling
from handsoutline.fields import LAST_FIELD
from handsoutline.outline import outline_of, refusal_about, row_of
from handsoutline.refusals import FULL, NOT_REFUSED, NOT_THERE, NO_DESK, WITHIN, WRONG
from handsoutline.spots import right_behind
from handsoutline.state import do_deed, has_desk, is_full
from handsoutline.tree import BIN, ROOT, is_there, line_up

MOST_DESKS = 6
GREATEST_TOLD = 1000000000


def begin(house, desks):
    if desks < 1 or desks > MOST_DESKS:
        return [WRONG]
    house.start(desks)
    return [0]


def make(house, desk, under, i):
    if not has_desk(house, desk):
        return [NO_DESK]
    outline = outline_of(house, desk)
    if not is_there(outline.places, under):
        return [NOT_THERE]
    row = row_of(outline, under)
    if i > len(row):
        return [WRONG]
    if is_full(house):
        return [FULL]
    thing = house.next_thing
    house.next_thing = thing + 1
    return [do_deed(house, desk, put_behind(outline, thing, under, row, i)), thing]


def move(house, desk, thing, under, i):
    if not has_desk(house, desk):
        return [NO_DESK]
    outline = outline_of(house, desk)
    if not can_move(outline.places, thing) or not is_there(outline.places, under):
        return [NOT_THERE]
    if thing in line_up(outline.places, under):
        return [WITHIN]
    others = [put for put in row_of(outline, under) if put.act.thing != thing]
    if i > len(others):
        return [WRONG]
    if is_full(house):
        return [FULL]
    return [do_deed(house, desk, put_behind(outline, thing, under, others, i))]


def can_move(places, thing):
    return thing != ROOT and thing != BIN and is_there(places, thing)


# For a move the row is the one without the thing, so that i is its place behind the move.
def put_behind(outline, thing, under, row, i):
    spot = BEGINNING
    if i > 0:
        spot = row[i - 1].number
    place = right_behind(outline.deeds, under, spot)
    return Put(thing, under, place[0], place[1])


def tell(house, desk, thing, field, value):
    return do_to_thing(house, desk, field > LAST_FIELD or value > GREATEST_TOLD, Telling(thing, field, value))


def clear_field(house, desk, thing, field):
    return do_to_thing(house, desk, field > LAST_FIELD, Clearing(thing, field))


def add_amount(house, desk, thing, amount):
    return do_to_thing(house, desk, amount > GREATEST_TOLD, Adding(thing, amount))


def less_amount(house, desk, thing, amount):
    return do_to_thing(house, desk, amount > GREATEST_TOLD, Adding(thing, -amount))


def do_to_thing(house, desk, is_wrong, act):
    refusal = refusal_to_thing(house, desk, is_wrong, act.thing)
    if refusal != NOT_REFUSED:
        return [refusal]
    return [do_deed(house, desk, act)]


def refusal_to_thing(house, desk, is_wrong, thing):
    refusal = refusal_about(house, desk, thing)
    if refusal != NOT_REFUSED:
        return refusal
    if is_wrong:
        return WRONG
    if is_full(house):
        return FULL
    return NOT_REFUSED
