"""Builds calls as the interface writes them, and takes the answers apart again."""

from curedsteps.oven import answers

BIGGEST = 4294967295


def start(lag=4, most=200, step=100, low=20, high=200, warms=(60, 100), rates=(10, 100)):
    return [0, lag, most, step, low, high, len(warms), *warms, len(rates), *rates]


def set_to(point):
    return [1, point]


def pass_by(minutes):
    return [2, minutes]


def would(minutes):
    return [3, minutes]


def hottest(minutes):
    return [4, minutes]


def left():
    return [5]


def cooled(warmth):
    return [6, warmth]


def cured():
    return [7]


def run(*programme):
    return [8, len(programme), *programme]


def follow(*programme):
    return [9, len(programme), *programme]


def soonest(minutes):
    return [10, minutes]


def farthest(minutes):
    return [11, minutes]


def rate(warmth):
    return [12, warmth]


def next_points():
    return [13]


def new_part(warmth):
    return [14, warmth]


def log(back):
    return [15, back]


def safe(minutes):
    return [16, minutes]


def need(minutes):
    return [17, minutes]


def state():
    return [18]


def take_apart(told):
    """The answers to each call, as a list of lists."""
    apart = []
    place = 0
    while place < len(told):
        length = told[place]
        apart.append(told[place + 1:place + 1 + length])
        if length < 1 or len(apart[-1]) != length:
            raise AssertionError(f"counts don't fit: {told}")
        place += 1 + length
    return apart


def ask(*calls):
    """What each of these calls on one new object answers."""
    told = take_apart(answers([number for call in calls for number in call]))
    if len(told) != len(calls):
        raise AssertionError(f"{len(calls)} calls, {len(told)} answers")
    return told


def last(*calls):
    return ask(*calls)[-1]


def log_behind(*calls):
    """All that the log keeps behind these calls, the last minute first."""
    told = []
    # A line holds 200 calls, so one may not have room for all of them.
    room = 200 - len(calls)
    while [-6] not in told:
        looks = [log(back) for back in range(len(told), len(told) + room)]
        told += ask(*calls, *looks)[len(calls):]
    return [warmth for [warmth] in told[:told.index([-6])]]


def seen_behind(*calls):
    """All that can be seen of the object behind these calls."""
    looks = [state(), cured(), left(), hottest(300), run(), cooled(20), cooled(99), safe(300), next_points(), farthest(2),
             soonest(2), need(3)]
    looks += [would(minutes) for minutes in (0, 1, 2, 5, 300)]
    looks += [log(back) for back in (0, 1, 2, 3, 10, 50, 98, 99, 100)]
    looks += [rate(warmth) for warmth in range(0, 301, 10)]
    # Each is asked of an object of its own, as one that isn't refused tells the set point but changes it.
    points = [last(*calls, set_to(point)) for point in range(0, 301, 10)]
    return ask(*calls, *looks)[len(calls):] + points
