"""Deeds: what each one does, its stamp, what it saw."""

LEFT = 0
RIGHT = 1

# Puts are numbered from 0 on, so this can stand where a put's number does.
BEGINNING = -1

# A deed that can be touched for so many counts only can be forgotten behind them.
REACH = 20


class Put:
    # Spots are known by their puts' numbers, so at is one of these, or BEGINNING.
    def __init__(self, thing, under, at, side):
        self.thing = thing
        self.under = under
        self.at = at
        self.side = side


class Telling:
    def __init__(self, thing, field, value):
        self.thing = thing
        self.field = field
        self.value = value


class Clearing:
    def __init__(self, thing, field):
        self.thing = thing
        self.field = field


class Adding:
    def __init__(self, thing, amount):
        self.thing = thing
        self.amount = amount


class TakingBack:
    def __init__(self, deed):
        self.deed = deed


class DoingAgain:
    def __init__(self, deed):
        self.deed = deed


class Deed:
    # A desk has had the first ones of each desk's deeds, so counts say what a deed saw, and rank is held against them.
    def __init__(self, number, desk, rank, count, saw, act):
        self.number = number
        self.desk = desk
        self.rank = rank
        self.count = count
        self.saw = saw
        self.act = act


def stamp(deed):
    return (deed.count, deed.desk)


def is_change(deed):
    return not isinstance(deed.act, (TakingBack, DoingAgain))


def is_in_reach(count, deed):
    return count <= deed.count + REACH


def has_seen(deed, other):
    return other.rank <= deed.saw[other.desk]
