"""The house: its desks, the deeds done anywhere, and the letters."""

from handsoutline.deeds import Deed, stamp

MOST_DEEDS = 100
FIRST_MADE = 2


class Desk:
    # Its own place in sure and in heard stays unused: of itself a desk knows its counts and its greatest count.
    def __init__(self, desks):
        self.greatest = 0
        self.counts = [0] * desks
        self.sure = [[0] * desks for other in range(desks)]
        self.heard = [0] * desks
        self.forgotten = {}


class Letter:
    def __init__(self, source, target, counts, greatest, deeds):
        self.source = source
        self.target = target
        self.counts = counts
        self.greatest = greatest
        self.deeds = deeds


class House:
    def __init__(self, desks):
        self.start(desks)

    def start(self, desks):
        self.desks = [Desk(desks) for number in range(desks)]
        self.deeds = []
        self.letters = []
        self.next_thing = FIRST_MADE


def has_desk(house, desk):
    return desk < len(house.desks)


def is_full(house):
    return len(house.deeds) >= MOST_DEEDS


# In the order of stamps, as all that deeds come to hangs on it.
def had(house, desk):
    counts = house.desks[desk].counts
    return sorted([deed for deed in house.deeds if deed.rank <= counts[deed.desk]], key=stamp)


def others_of(house, desk):
    return [other for other in range(len(house.desks)) if other != desk]


def next_count(house, desk):
    return house.desks[desk].greatest + 1


def do_deed(house, desk, act):
    doer = house.desks[desk]
    # Copied before this deed is counted: it doesn't see itself, nor what comes later.
    saw = list(doer.counts)
    doer.greatest = next_count(house, desk)
    doer.counts[desk] = saw[desk] + 1
    number = len(house.deeds)
    house.deeds.append(Deed(number, desk, doer.counts[desk], doer.greatest, saw, act))
    return number
