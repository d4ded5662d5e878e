"""The programmes by whole steps that do, looked through in their order."""

from curedsteps.mould import points_by_whole_steps
from curedsteps.part import is_cured, is_too_hot, minute_later


# A programme that does, with the set point and the part behind it.
class Way:
    def __init__(self, programme, point, part):
        self.programme = programme
        self.point = point
        self.part = part


# They come in order, as the shorter ones do and each of these goes on in order.
def ways_a_minute_longer(mould, ways):
    longer = []
    for way in ways:
        for point in points_by_whole_steps(mould, way.point):
            part = minute_later(mould, way.part, point)
            if not is_too_hot(mould, part):
                longer.append(Way(way.programme + [point], point, part))
    return longer


def first_cured(ways):
    for way in ways:
        if is_cured(way.part):
            return way
    return None


# Of several that cure as far the first is kept, so only one that cures further takes its place.
def first_cured_furthest(ways):
    best = None
    for way in ways:
        if best is None or way.part.cure > best.part.cure:
            best = way
    return best


# All the shorter ones are looked through before any that is longer; None stands for none.
def soonest_way(mould, part, point, minutes):
    ways = [Way([], point, part)]
    for turn in range(minutes):
        way = first_cured(ways)
        if way is not None:
            return way
        ways = ways_a_minute_longer(mould, ways)
    return first_cured(ways)


# None stands for none that does.
def farthest_way(mould, part, point, minutes):
    ways = [Way([], point, part)]
    for turn in range(minutes):
        ways = ways_a_minute_longer(mould, ways)
    return first_cured_furthest(ways)
