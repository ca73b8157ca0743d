"""The tree: which things are there, and by which put each one is."""

from handsoutline.deeds import Put

ROOT = 0
BIN = 1


# Each thing has the put by which it's there, as the row asks for that one's spot; the root and the bin have none.
def places_of(held):
    places = {}
    for deed in held:
        if isinstance(deed.act, Put) and can_be_put(places, deed.act.thing, deed.act.under):
            places[deed.act.thing] = deed
    return places


def can_be_put(places, thing, under):
    return is_there(places, under) and thing not in line_up(places, under)


def is_there(places, thing):
    return thing == ROOT or thing == BIN or thing in places


# It ends, as no put is taken in that would lay a thing within itself.
def line_up(places, thing):
    found = [thing]
    while thing in places:
        thing = places[thing].act.under
        found.append(thing)
    return found
