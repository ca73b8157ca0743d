"""Which of the deeds that a desk has had hold."""

from handsoutline.deeds import TakingBack, is_change, is_in_reach


# What decides is the last by stamps, so the deeds must come in that order; the answer keeps it.
def holding(deeds):
    changes = {}
    taken = {}
    for deed in deeds:
        if is_change(deed):
            changes[deed.number] = deed
        elif is_in_reach(deed.count, changes[deed.act.deed]):
            taken[deed.act.deed] = isinstance(deed.act, TakingBack)
    return [deed for deed in deeds if not taken.get(deed.number, False)]
