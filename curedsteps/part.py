"""The part in the mould: how it warms and cures."""

from curedsteps.mould import rate_at

FULL_CURE = 10000


# Never changed: each minute makes another Part, so what only looks ahead leaves the present one as it is.
class Part:
    def __init__(self, warmth, cure):
        self.warmth = warmth
        self.cure = cure


def is_cured(part):
    return part.cure >= FULL_CURE


def is_too_hot(mould, part):
    return part.warmth > mould.most


def warmth_later(mould, warmth, point):
    gap = abs(point - warmth)
    # Rounded up, so that a gap of 1 is closed too; never more than the gap, as the lag is 1 at least.
    move = (gap + mould.lag - 1) // mould.lag
    if point < warmth:
        return warmth - move
    return warmth + move


# The cure goes by the warmth that the part has come to in this minute, not by the one before.
def minute_later(mould, part, point):
    warmth = warmth_later(mould, part.warmth, point)
    cure = part.cure + rate_at(mould, warmth)
    return Part(warmth, min(cure, FULL_CURE))


# The first is the part as it is now: several answers count minute 0 in.
def course(mould, part, programme):
    parts = [part]
    for point in programme:
        parts.append(minute_later(mould, parts[-1], point))
    return parts


def is_ever_too_hot(mould, parts):
    return any([is_too_hot(mould, part) for part in parts])
