"""The calls that write a letter and let it come: send, comes."""

from handsoutline.refusals import FULL, NO_DESK, NO_LETTER
from handsoutline.state import Letter, had, has_desk

MOST_LETTERS = 200


def send(house, source, target):
    if not has_desk(house, source) or not has_desk(house, target) or source == target:
        return [NO_DESK]
    if len(house.letters) >= MOST_LETTERS:
        return [FULL]
    letter = written(house, source, target)
    house.letters.append(letter)
    return [len(house.letters) - 1, len(letter.deeds)]


# The counts are copied: the letter may come late, and tells what was so when it was written.
def written(house, source, target):
    desk = house.desks[source]
    deeds = unsure(house, source, target)
    return Letter(source, target, list(desk.counts), desk.greatest, deeds)


def unsure(house, source, target):
    sure = house.desks[source].sure[target]
    return [deed.number for deed in had(house, source) if deed.rank > sure[deed.desk]]


def comes(house, number):
    if number >= len(house.letters):
        return [NO_LETTER]
    letter = house.letters[number]
    before = sum(house.desks[letter.target].counts)
    hear(house.desks[letter.target], letter)
    return [sum(house.desks[letter.target].counts) - before]


# The counts alone are enough: what the letter leaves out is what its sender was sure of, so the desk has had it.
def hear(desk, letter):
    desk.counts = greater_of_each(desk.counts, letter.counts)
    desk.greatest = max(desk.greatest, letter.greatest)
    desk.sure[letter.source] = greater_of_each(desk.sure[letter.source], letter.counts)
    desk.heard[letter.source] = max(desk.heard[letter.source], letter.greatest)


# Letters come doubled and late, so none may take away what an earlier one brought.
def greater_of_each(counts, others):
    return [max(counts[k], others[k]) for k in range(len(counts))]
