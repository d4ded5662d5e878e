"""The calls on one oven, and their answers."""

from curedsteps.mould import MOST_WARMTH, Mould
from curedsteps.mould import is_as_told, is_point, may_come_in_turn, may_go, points_by_whole_steps, rate_at
from curedsteps.part import Part, course, is_cured, is_ever_too_hot, is_too_hot
from curedsteps.reader import Reader
from curedsteps.ways import farthest_way, soonest_way

NONE_SO_FAR_BACK = -6
NOT_STARTED = -11
MAY_NOT_GO = -13
OUT_OF_BOUNDS = -22
NOT_IN_TIME = -33
DOES_NOT_DO = -62

START = 0

MOST_MINUTES = 300
LONGEST_PROGRAMME = 30
LONGEST_SEARCH = 6
LONGEST_NEED = 60
LONGEST_LOG = 100


# The mould is None before a start that isn't refused: that is how the other calls know.
class Oven:
    def __init__(self):
        self.mould = None
        self.part = None
        self.point = 0
        self.minutes = 0
        self.log = []


# Not held back by what is too hot: this tells what would be, it doesn't let it come to be.
def course_held(oven, minutes):
    return course(oven.mould, oven.part, [oven.point] * minutes)


# None stands for a programme that doesn't do.
def course_that_does(oven, programme):
    if not may_come_in_turn(oven.mould, oven.point, programme):
        return None
    parts = course(oven.mould, oven.part, programme)
    if is_ever_too_hot(oven.mould, parts):
        return None
    return parts


# The one place where minutes go by: nothing is kept before the whole programme is known to do.
def carry_out(oven, programme):
    parts = course_that_does(oven, programme)
    if parts is None:
        return [DOES_NOT_DO]
    oven.part = parts[-1]
    oven.point = programme[-1]
    oven.minutes += len(programme)
    warmths = [part.warmth for part in parts[1:]]
    oven.log = (oven.log + warmths)[-LONGEST_LOG:]
    return told_of(oven.part)


def told_of(part):
    return [part.warmth, part.cure]


def start(oven, given):
    mould = Mould(given[0], given[1], given[2], given[3], given[4], given[5], given[6])
    if not is_as_told(mould):
        return [OUT_OF_BOUNDS]
    oven.mould = mould
    oven.part = Part(mould.low, 0)
    oven.point = mould.low
    oven.minutes = 0
    # At minute 0 no minute has gone by yet, so there is none to look back to.
    oven.log = []
    return [0]


def set_to(oven, given):
    point = given[0]
    before = oven.point
    if not is_point(oven.mould, point):
        return [OUT_OF_BOUNDS]
    if not may_go(oven.mould, before, point):
        return [MAY_NOT_GO]
    oven.point = point
    return [before]


def pass_by(oven, given):
    minutes = given[0]
    if not 1 <= minutes <= MOST_MINUTES:
        return [OUT_OF_BOUNDS]
    return carry_out(oven, [oven.point] * minutes)


def would(oven, given):
    minutes = given[0]
    if minutes > MOST_MINUTES:
        return [OUT_OF_BOUNDS]
    return told_of(course_held(oven, minutes)[-1])


def hottest(oven, given):
    minutes = given[0]
    if minutes > MOST_MINUTES:
        return [OUT_OF_BOUNDS]
    return [max([part.warmth for part in course_held(oven, minutes)])]


def left(oven, given):
    for minute, part in enumerate(course_held(oven, MOST_MINUTES)):
        if is_cured(part):
            return [minute]
    return [NOT_IN_TIME]


def cooled(oven, given):
    warmth = given[0]
    if warmth > MOST_WARMTH:
        return [OUT_OF_BOUNDS]
    for minute, part in enumerate(course_held(oven, MOST_MINUTES)):
        if part.warmth <= warmth:
            return [minute]
    return [NOT_IN_TIME]


def cured(oven, given):
    return [1 if is_cured(oven.part) else 0, oven.part.cure]


def run(oven, given):
    programme = given[0]
    if len(programme) > LONGEST_PROGRAMME:
        return [OUT_OF_BOUNDS]
    parts = course_that_does(oven, programme)
    if parts is None:
        return [DOES_NOT_DO]
    return told_of(parts[-1])


def follow(oven, given):
    programme = given[0]
    if not 1 <= len(programme) <= LONGEST_PROGRAMME:
        return [OUT_OF_BOUNDS]
    return carry_out(oven, programme)


def soonest(oven, given):
    minutes = given[0]
    if minutes > LONGEST_SEARCH:
        return [OUT_OF_BOUNDS]
    way = soonest_way(oven.mould, oven.part, oven.point, minutes)
    if way is None:
        return [NOT_IN_TIME]
    return [len(way.programme)] + way.programme


def farthest(oven, given):
    minutes = given[0]
    if minutes > LONGEST_SEARCH:
        return [OUT_OF_BOUNDS]
    way = farthest_way(oven.mould, oven.part, oven.point, minutes)
    if way is None:
        return [NOT_IN_TIME]
    return [way.part.cure] + way.programme


def rate(oven, given):
    warmth = given[0]
    if warmth > MOST_WARMTH:
        return [OUT_OF_BOUNDS]
    return [rate_at(oven.mould, warmth)]


def next_points(oven, given):
    points = points_by_whole_steps(oven.mould, oven.point)
    return [len(points)] + points


def new_part(oven, given):
    fresh = Part(given[0], 0)
    if is_too_hot(oven.mould, fresh):
        return [OUT_OF_BOUNDS]
    cure = oven.part.cure
    oven.part = fresh
    return [cure]


def look_back(oven, given):
    back = given[0]
    if back >= len(oven.log):
        return [NONE_SO_FAR_BACK]
    return [oven.log[-1 - back]]


def safe(oven, given):
    minutes = given[0]
    if minutes > MOST_MINUTES:
        return [OUT_OF_BOUNDS]
    return [0 if is_ever_too_hot(oven.mould, course_held(oven, minutes)) else 1]


# Every set point is tried: as the table's rates needn't rise, a warmer one may cure less.
def need(oven, given):
    minutes = given[0]
    if minutes > LONGEST_NEED:
        return [OUT_OF_BOUNDS]
    for point in range(oven.mould.low, oven.mould.high + 1):
        parts = course(oven.mould, oven.part, [point] * minutes)
        if is_cured(parts[-1]) and not is_ever_too_hot(oven.mould, parts):
            return [point]
    return [NOT_IN_TIME]


def state(oven, given):
    return [oven.minutes, oven.part.warmth, oven.point, oven.part.cure, len(oven.log)]


# A call's number is its place here.
CALLS = (
    start, set_to, pass_by, would, hottest, left, cooled, cured, run, follow,
    soonest, farthest, rate, next_points, new_part, look_back, safe, need, state,
)


def answer(oven, call, given):
    if call != START and oven.mould is None:
        return [NOT_STARTED]
    ask = CALLS[call]
    return ask(oven, given)


def answers(calls):
    oven = Oven()
    reader = Reader(calls)
    told = []
    while not reader.is_at_end():
        call = reader.read_number()
        numbers = answer(oven, call, reader.read_given(call))
        told.append(len(numbers))
        told.extend(numbers)
    return told
