"""Fields' values and things' amounts, from the deeds that hold."""

from handsoutline.deeds import Adding, Clearing, Telling, has_seen

LAST_FIELD = 2


# The tellings, not their values alone, as answers show both.
def tellings_of(held, thing, field):
    about = [deed for deed in held if is_about(deed, thing, field)]
    return [deed for deed in about if isinstance(deed.act, Telling) and not is_seen(about, deed)]


def is_about(deed, thing, field):
    if not isinstance(deed.act, (Telling, Clearing)):
        return False
    return deed.act.thing == thing and deed.act.field == field


def is_seen(deeds, other):
    return any([has_seen(deed, other) for deed in deeds])


def amount_of(held, thing):
    return sum([deed.act.amount for deed in held if isinstance(deed.act, Adding) and deed.act.thing == thing])
