"""The calls about what a desk keeps: forget, kept."""

from handsoutline.deeds import REACH
from handsoutline.refusals import NO_DESK
from handsoutline.state import had, has_desk, others_of


# Only that a deed is forgotten is noted: all else answers as if every deed were kept.
def forget(house, desk):
    if not has_desk(house, desk):
        return [NO_DESK]
    ripe = ripe_deeds(house, desk)
    forgotten = house.desks[desk].forgotten
    for deed in ripe:
        forgotten[deed.number] = True
    return [len(ripe), len(forgotten)]


def ask_kept(house, desk):
    if not has_desk(house, desk):
        return [NO_DESK]
    many = len(kept_deeds(house, desk))
    return [many, len(ripe_deeds(house, desk)), settled_count(house, desk), len(house.desks[desk].forgotten)]


def kept_deeds(house, desk):
    forgotten = house.desks[desk].forgotten
    return [deed for deed in had(house, desk) if deed.number not in forgotten]


def ripe_deeds(house, desk):
    settled = settled_count(house, desk)
    ripe = []
    for deed in kept_deeds(house, desk):
        if deed.count + REACH > settled or not is_sure_of_all(house, desk, deed):
            # All that the desk keeps with later stamps have this one before them.
            return ripe
        ripe.append(deed)
    return ripe


def settled_count(house, desk):
    asked = house.desks[desk]
    return min([asked.greatest] + [asked.heard[other] for other in others_of(house, desk)])


def is_sure_of_all(house, desk, deed):
    sure = house.desks[desk].sure
    return all([deed.rank <= sure[other][deed.desk] for other in others_of(house, desk)])
