"""The outline as a desk sees it."""

from handsoutline.holding import holding
from handsoutline.refusals import NOT_REFUSED, NOT_THERE, NO_DESK
from handsoutline.spots import spots_under
from handsoutline.state import had, has_desk
from handsoutline.tree import is_there, places_of


class Outline:
    def __init__(self, deeds):
        self.deeds = deeds
        self.held = holding(deeds)
        self.places = places_of(self.held)


def outline_of(house, desk):
    return Outline(had(house, desk))


def refusal_about(house, desk, thing):
    if not has_desk(house, desk):
        return NO_DESK
    if not is_there(outline_of(house, desk).places, thing):
        return NOT_THERE
    return NOT_REFUSED


# Puts in the place of their things, as a new put is laid behind a put's spot.
def row_of(outline, under):
    return [put for put in spots_under(outline.deeds, under) if is_by(outline.places, put)]


def is_by(places, put):
    return put.act.thing in places and places[put.act.thing].number == put.number


def things_in_row(outline, under):
    return [put.act.thing for put in row_of(outline, under)]


# Things may lie each under the one before as deep as there are deeds, so what is still to be gone through is kept in
# a list; it is taken from its end, so a row goes in from its last thing on.
def within(outline, thing):
    found = []
    waiting = [(thing, 0)]
    while len(waiting) > 0:
        pair = waiting.pop()
        found.append(pair)
        for other in reversed(things_in_row(outline, pair[0])):
            waiting.append((other, pair[1] + 1))
    return found[1:]
