"""What a start tells: the bounds of the mould and the table of the cure."""

MOST_LAG = 50
MOST_STEP = 100
MOST_WARMTH = 300
MOST_RATE = 10000
MOST_ROWS = 8


class Mould:
    def __init__(self, lag, most, step, low, high, warms, rates):
        self.lag = lag
        self.most = most
        self.step = step
        self.low = low
        self.high = high
        self.warms = warms
        self.rates = rates


# Every fault has the same refusal, so their order doesn't matter.
def is_as_told(mould):
    if not 1 <= mould.lag <= MOST_LAG or not 1 <= mould.step <= MOST_STEP:
        return False
    if mould.most > MOST_WARMTH or mould.high > MOST_WARMTH:
        return False
    if mould.high < mould.low or mould.most < mould.low:
        return False
    return is_table(mould.warms, mould.rates)


def is_table(warms, rates):
    if not 1 <= len(warms) <= MOST_ROWS or len(rates) != len(warms):
        return False
    if max(warms) > MOST_WARMTH or max(rates) > MOST_RATE:
        return False
    return all([lower < upper for lower, upper in zip(warms, warms[1:])])


# The warmths rise, so what is kept at the end is the last row that is reached.
def rate_at(mould, warmth):
    reached = 0
    for row_warmth, rate in zip(mould.warms, mould.rates):
        if row_warmth <= warmth:
            reached = rate
    return reached


def is_point(mould, point):
    return mould.low <= point <= mould.high


def may_go(mould, point, other):
    return abs(other - point) <= mould.step


# Where a whole step leads out of the bounds it isn't taken at all: it isn't cut short.
def points_by_whole_steps(mould, point):
    others = (point - mould.step, point, point + mould.step)
    return [other for other in others if is_point(mould, other)]


def may_come_in_turn(mould, point, programme):
    before = point
    for other in programme:
        if not is_point(mould, other) or not may_go(mould, before, other):
            return False
        before = other
    return True
