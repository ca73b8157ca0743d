"""The call that writes a letter: send."""

from handsoutline.refusals import FULL, NO_DESK
from handsoutline.state import Letter, had, has_desk

MOST_LETTERS = 200


def send(house, source, target):
    if not has_desk(house, source) or not has_desk(house, target) or source == target:
        return [NO_DESK]
    if len(house.letters) >= MOST_LETTERS:
        return [FULL]
    letter = written(house, source, target)
    house.letters.append(letter)
    return [len(house.letters) - 1, len(letter.deeds)]


# The counts are copied: the letter may come late, and tells what was so when it was written.
def written(house, source, target):
    desk = house.desks[source]
    deeds = unsure(house, source, target)
    return Letter(source, target, list(desk.counts), desk.greatest, deeds)


def unsure(house, source, target):
    sure = house.desks[source].sure[target]
    return [deed.number for deed in had(house, source) if deed.rank > sure[deed.desk]]
