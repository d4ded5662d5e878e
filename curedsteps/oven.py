"""The calls on one oven, and their answers."""

from curedsteps.mould import MOST_WARMTH, Mould, is_as_told, is_point, may_come_in_turn, may_go
from curedsteps.part import Part, course, is_cured, is_ever_too_hot
from curedsteps.reader import Reader

NOT_STARTED = -11
MAY_NOT_GO = -13
OUT_OF_BOUNDS = -22
NOT_IN_TIME = -33
DOES_NOT_DO = -62

START = 0

MOST_MINUTES = 300
LONGEST_PROGRAMME = 30


# The mould is None before a start that isn't refused: that is how the other calls know.
class Oven:
    def __init__(self):
        self.mould = None
        self.part = None
        self.point = 0
        self.minutes = 0


# Not held back by what is too hot: this tells what would be, it doesn't let it come to be.
def course_held(oven, minutes):
    return course(oven.mould, oven.part, [oven.point] * minutes)


# None stands for a programme that doesn't do.
def course_that_does(oven, programme):
    if not may_come_in_turn(oven.mould, oven.point, programme):
        return None
    parts = course(oven.mould, oven.part, programme)
    if is_ever_too_hot(oven.mould, parts):
        return None
    return parts


# The one place where minutes go by: nothing is kept before the whole programme is known to do.
def carry_out(oven, programme):
    parts = course_that_does(oven, programme)
    if parts is None:
        return [DOES_NOT_DO]
    oven.part = parts[-1]
    oven.point = programme[-1]
    oven.minutes += len(programme)
    return told_of(oven.part)


def told_of(part):
    return [part.warmth, part.cure]


def start(oven, given):
    mould = Mould(given[0], given[1], given[2], given[3], given[4], given[5], given[6])
    if not is_as_told(mould):
        return [OUT_OF_BOUNDS]
    oven.mould = mould
    oven.part = Part(mould.low, 0)
    oven.point = mould.low
    oven.minutes = 0
    return [0]


def set_to(oven, given):
    point = given[0]
    before = oven.point
    if not is_point(oven.mould, point):
        return [OUT_OF_BOUNDS]
    if not may_go(oven.mould, before, point):
        return [MAY_NOT_GO]
    oven.point = point
    return [before]


def pass_by(oven, given):
    minutes = given[0]
    if not 1 <= minutes <= MOST_MINUTES:
        return [OUT_OF_BOUNDS]
    return carry_out(oven, [oven.point] * minutes)


def would(oven, given):
    minutes = given[0]
    if minutes > MOST_MINUTES:
        return [OUT_OF_BOUNDS]
    return told_of(course_held(oven, minutes)[-1])


def hottest(oven, given):
    minutes = given[0]
    if minutes > MOST_MINUTES:
        return [OUT_OF_BOUNDS]
    return [max([part.warmth for part in course_held(oven, minutes)])]


def left(oven, given):
    for minute, part in enumerate(course_held(oven, MOST_MINUTES)):
        if is_cured(part):
            return [minute]
    return [NOT_IN_TIME]


def cooled(oven, given):
    warmth = given[0]
    if warmth > MOST_WARMTH:
        return [OUT_OF_BOUNDS]
    for minute, part in enumerate(course_held(oven, MOST_MINUTES)):
        if part.warmth <= warmth:
            return [minute]
    return [NOT_IN_TIME]


def cured(oven, given):
    return [1 if is_cured(oven.part) else 0, oven.part.cure]


def run(oven, given):
    programme = given[0]
    if len(programme) > LONGEST_PROGRAMME:
        return [OUT_OF_BOUNDS]
    parts = course_that_does(oven, programme)
    if parts is None:
        return [DOES_NOT_DO]
    return told_of(parts[-1])


def follow(oven, given):
    programme = given[0]
    if not 1 <= len(programme) <= LONGEST_PROGRAMME:
        return [OUT_OF_BOUNDS]
    return carry_out(oven, programme)


# A call's number is its place here.
CALLS = (start, set_to, pass_by, would, hottest, left, cooled, cured, run, follow)


def answer(oven, call, given):
    if call != START and oven.mould is None:
        return [NOT_STARTED]
    if call >= len(CALLS):
        raise NotImplementedError(f"call {call} is not built yet")
    ask = CALLS[call]
    return ask(oven, given)


def answers(calls):
    oven = Oven()
    reader = Reader(calls)
    told = []
    while not reader.is_at_end():
        call = reader.read_number()
        numbers = answer(oven, call, reader.read_given(call))
        told.append(len(numbers))
        told.extend(numbers)
    return told
