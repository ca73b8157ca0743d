"""The outline as a desk sees it."""

from handsoutline.holding import holding
from handsoutline.spots import spots_under
from handsoutline.state import had
from handsoutline.tree import places_of


class Outline:
    def __init__(self, deeds):
        self.deeds = deeds
        self.held = holding(deeds)
        self.places = places_of(self.held)


def outline_of(house, desk):
    return Outline(had(house, desk))


# Puts in the place of their things, as a new put is laid behind a put's spot.
def row_of(outline, under):
    return [put for put in spots_under(outline.deeds, under) if is_by(outline.places, put)]


def is_by(places, put):
    return put.act.thing in places and places[put.act.thing].number == put.number
