"""Builds calls as the interface writes them, and takes the answers apart again."""

from curedsteps.oven import answers

BIGGEST = 4294967295


def start(lag=4, most=200, step=100, low=20, high=200, warms=(60, 100), rates=(10, 100)):
    return [0, lag, most, step, low, high, len(warms), *warms, len(rates), *rates]


def set_to(point):
    return [1, point]


def pass_by(minutes):
    return [2, minutes]


def would(minutes):
    return [3, minutes]


def hottest(minutes):
    return [4, minutes]


def left():
    return [5]


def cooled(warmth):
    return [6, warmth]


def cured():
    return [7]


def run(*programme):
    return [8, len(programme), *programme]


def follow(*programme):
    return [9, len(programme), *programme]


def take_apart(told):
    """The answers to each call, as a list of lists."""
    apart = []
    place = 0
    while place < len(told):
        length = told[place]
        apart.append(told[place + 1:place + 1 + length])
        if length < 1 or len(apart[-1]) != length:
            raise AssertionError(f"counts don't fit: {told}")
        place += 1 + length
    return apart


def ask(*calls):
    """What each of these calls on one new object answers."""
    told = take_apart(answers([number for call in calls for number in call]))
    if len(told) != len(calls):
        raise AssertionError(f"{len(calls)} calls, {len(told)} answers")
    return told


def last(*calls):
    return ask(*calls)[-1]


def seen_behind(*calls):
    """All that can be seen of the object behind these calls."""
    looks = [cured(), left(), hottest(300), run(), cooled(20), cooled(99)]
    looks += [would(minutes) for minutes in (0, 1, 2, 5, 300)]
    # Each is asked of an object of its own, as one that isn't refused tells the set point but changes it.
    points = [last(*calls, set_to(point)) for point in range(0, 301, 10)]
    return ask(*calls, *looks)[len(calls):] + points
