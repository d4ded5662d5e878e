"""What holds, over many lines; and every answer against a second, slower telling of the same words."""

import random
import unittest

from tests.lines import BIGGEST, ask, cooled, cured, farthest, follow, hottest, left, log, log_behind, need, new_part
from tests.lines import next_points, pass_by, rate, run, safe, set_to, soonest, start, state, would


class Told:
    """The words told once more, with none of the program's own code."""

    def __init__(self):
        self.bounds = None

    def start(self, lag, most, step, low, high, warms, rates):
        good = lag in range(1, 51) and most in range(low, 301) and step in range(1, 101) and high in range(low, 301)
        good = good and len(warms) in range(1, 9) and len(rates) == len(warms) and sorted(set(warms)) == list(warms)
        if not good or any(warm > 300 for warm in warms) or any(rate > 10000 for rate in rates):
            return [-22]
        self.bounds = lag, most, step, low, high
        self.table = dict(zip(warms, rates))
        self.warmth = self.point = low
        self.cure = 0
        self.past = []
        return [0]

    def minute(self, warmth, cure, point):
        share = -(-abs(point - warmth) // self.bounds[0])
        warmth += share if point > warmth else -share
        return warmth, min(10000, cure + self.row(warmth))

    def row(self, warmth):
        reached = [warm for warm in self.table if warm <= warmth]
        return self.table[max(reached)] if reached else 0

    def ahead(self, points):
        seen = [(self.warmth, self.cure)]
        for point in points:
            seen.append(self.minute(*seen[-1], point))
        return seen

    def does(self, points):
        lag, most, step, low, high = self.bounds
        turns = zip([self.point] + points, points)
        if any(after not in range(low, high + 1) or after - before not in range(-step, step + 1) for before, after in turns):
            return False
        return max(warmth for warmth, cure in self.ahead(points)) <= most

    def answer(self, call):
        if call[0] == 0:
            split = 7 + call[6]
            return self.start(*call[1:6], call[7:split], call[split + 1:])
        if self.bounds is None:
            return [-11]
        named = (None, self.set, self.pass_by, self.would, self.hottest, self.left, self.cooled, self.cured, self.run,
                 self.follow, self.soonest, self.farthest, self.rate, self.next_points, self.new_part, self.log, self.safe,
                 self.need, self.state)[call[0]]
        return named(call[2:]) if call[0] in (8, 9) else named(*call[1:])

    def set(self, point):
        lag, most, step, low, high = self.bounds
        if point < low or point > high:
            return [-22]
        if max(point, self.point) - min(point, self.point) > step:
            return [-13]
        old, self.point = self.point, point
        return [old]

    def pass_by(self, minutes):
        return self.go([self.point] * minutes) if minutes in range(1, 301) else [-22]

    def go(self, points):
        if not self.does(points):
            return [-62]
        # Every minute is kept from the start on; only log and state look at no more than the last 100.
        self.past += self.ahead(points)[1:]
        self.warmth, self.cure = self.past[-1]
        self.point = points[-1]
        return [self.warmth, self.cure]

    def would(self, minutes):
        return [-22] if minutes > 300 else list(self.ahead([self.point] * minutes)[-1])

    def hottest(self, minutes):
        return [-22] if minutes > 300 else [max(self.ahead([self.point] * minutes))[0]]

    def left(self):
        done = [minute for minute, seen in enumerate(self.ahead([self.point] * 300)) if seen[1] == 10000]
        return done[:1] or [-33]

    def cooled(self, warmth):
        cool = [minute for minute, seen in enumerate(self.ahead([self.point] * 300)) if seen[0] <= warmth]
        return [-22] if warmth > 300 else cool[:1] or [-33]

    def cured(self):
        return [int(self.cure == 10000), self.cure]

    def run(self, points):
        if len(points) > 30:
            return [-22]
        return list(self.ahead(points)[-1]) if self.does(points) else [-62]

    def follow(self, points):
        return self.go(points) if len(points) in range(1, 31) else [-22]

    def programmes(self, minutes, begun=()):
        """Each programme by whole steps that does, with how far it cures: depth first, so in order."""
        if not self.does(list(begun)):
            return
        if len(begun) == minutes:
            yield list(begun), self.ahead(begun)[-1][1]
            return
        lag, most, step, low, high = self.bounds
        before = begun[-1] if begun else self.point
        for point in (before - step, before, before + step):
            yield from self.programmes(minutes, (*begun, point))

    def soonest(self, minutes):
        if minutes > 6:
            return [-22]
        for length in range(minutes + 1):
            for points, cure in self.programmes(length):
                if cure == 10000:
                    return [length] + points
        return [-33]

    def farthest(self, minutes):
        if minutes > 6:
            return [-22]
        found = list(self.programmes(minutes))
        best = max([cure for points, cure in found], default=-33)
        return [best] + next((points for points, cure in found if cure == best), [])

    def rate(self, warmth):
        return [-22] if warmth > 300 else [self.row(warmth)]

    def next_points(self):
        lag, most, step, low, high = self.bounds
        points = [point for point in range(low, high + 1) if abs(point - self.point) in (0, step)]
        return [len(points)] + points

    def new_part(self, warmth):
        if warmth > self.bounds[1]:
            return [-22]
        old, self.warmth, self.cure = self.cure, warmth, 0
        return [old]

    def log(self, back):
        return [self.past[len(self.past) - 1 - back][0]] if back < min(100, len(self.past)) else [-6]

    def safe(self, minutes):
        if minutes > 300:
            return [-22]
        return [int(self.hottest(minutes)[0] <= self.bounds[1])]

    def need(self, minutes):
        if minutes > 60:
            return [-22]
        lag, most, step, low, high = self.bounds
        for point in range(low, high + 1):
            seen = self.ahead([point] * minutes)
            if max(warmth for warmth, cure in seen) <= most and (10000 in [cure for warmth, cure in seen]):
                return [point]
        return [-33]

    def state(self):
        return [len(self.past), self.warmth, self.point, self.cure, min(100, len(self.past))]


def some_start(chance):
    low = chance.choice([0, 20, 60, chance.randrange(301), 300])
    high = chance.choice([low, 300, min(300, low + chance.randrange(200)), chance.randrange(302)])
    most = chance.choice([low, 300, min(300, low + chance.randrange(150)), high, chance.randrange(302)])
    rows = chance.choice([1, 1, 2, 3, 8, 8, 9, 0])
    warms = sorted(chance.sample(range(301), rows))
    if chance.random() < 0.04 and rows:
        warms[chance.randrange(rows)] = chance.choice([0, 150, 301])
    rates = [chance.choice([0, 1, 33, 90, 500, 3333, 10000, chance.randrange(10002)]) for warm in warms]
    lag = chance.choice([1, 1, 2, 3, 7, 49, 50, chance.randrange(52)])
    return start(lag, most, chance.choice([1, 5, 30, 99, 100, chance.randrange(102)]), low, high, warms,
                 rates[:len(rates) - (chance.random() < 0.02)])


def some_programme(chance, told):
    length = chance.choice([0, 1, 2, 3, 5, 8, 29, 30, 31, 60])
    step, low, high = told.bounds[2:] if told.bounds else (10, 0, 100)
    points = []
    point = told.point if told.bounds else 0
    for turn in range(length):
        point = min(high, max(low, point + chance.choice([-step, -1, 0, 1, step, chance.randint(-step, step)])))
        points.append(point)
    if points and chance.random() < 0.1:
        points[chance.randrange(length)] += chance.choice([1, step, BIGGEST - 400])
    return points


def some_call(chance, told):
    minutes = chance.choice([0, 1, 1, 2, 3, 10, 60, 299, 300, 301, BIGGEST, chance.randrange(40)])
    kind = chance.choice("spppwhlcdrrfff" + "tttt" * 2 + "SSFRNPPLLLAEEZ")
    if kind == "t":
        return set_to(min(BIGGEST, max(0, (told.point if told.bounds else 0) + chance.randint(-60, 110))))
    if kind in "rf":
        return (run if kind == "r" else follow)(*some_programme(chance, told))
    if kind == "s":
        return some_start(chance) if chance.random() < 0.2 else cured()
    warmth = chance.choice([0, 19, 20, 60, 299, 300, 301, BIGGEST, chance.randrange(301)])
    few = chance.choice([0, 1, 1, 2, 2, 3, 3, 4, 5, 6, 7, BIGGEST])
    if kind == "P" and told.bounds:
        warmth = max(0, told.bounds[1] + chance.choice([0, 1, -1, -10, -40, -100, BIGGEST - 300]))
    back = chance.choice([0, 0, 1, 2, 5, 20, 98, 99, 100, 101, BIGGEST, chance.randrange(100)])
    wait = chance.choice([0, 1, 2, 3, 4, 6, 9, 20, 60, 61, BIGGEST])
    return {"p": pass_by(minutes), "w": would(minutes), "h": hottest(minutes), "l": left(), "d": cured(),
            "c": cooled(warmth), "S": soonest(few), "F": farthest(few), "R": rate(warmth), "N": next_points(),
            "P": new_part(warmth), "L": log(back), "A": safe(minutes), "E": need(wait), "Z": state()}[kind]


def some_line(chance, length):
    """A line of so many calls, with what the second telling answers to each."""
    told = Told()
    calls, due = [], []
    for number in range(length):
        first = number == 0 or told.bounds is None and chance.random() < 0.3
        calls.append(some_start(chance) if first else some_call(chance, told))
        due.append(told.answer(calls[-1]))
    return calls, due


REFUSALS = ((-22,), (-22, -13), (-22, -62), (-22,), (-22,), (-33,), (-22, -33), (), (-22, -62), (-22, -62), (-22, -33),
            (-22, -33), (-22,), (), (-22,), (-6,), (-22,), (-22, -33), ())


class AgainstTheSecondTelling(unittest.TestCase):
    def test_many_lines(self):
        chance = random.Random(20261116)
        seen = {}
        for turn in range(1500):
            calls, due = some_line(chance, chance.randint(1, 30))
            self.assertEqual(ask(*calls), due, calls)
            for call, numbers in zip(calls, due):
                kept = (call[0], min(0, numbers[0]))
                seen[kept] = seen.get(kept, 0) + 1
        # The lines are worth something only if every answer and every refusal came up often.
        for call, refusals in enumerate(REFUSALS):
            for number in (0, *refusals, *[-11] * (call > 0)):
                self.assertGreater(seen.get((call, number), 0), 10, (call, number))

    def test_lines_of_200_calls(self):
        chance = random.Random(200)
        kinds = set()
        for turn in range(30):
            calls, due = some_line(chance, 200)
            self.assertEqual(ask(*calls), due, calls)
            kinds |= {call[0] for call in calls}
        self.assertEqual(kinds, set(range(19)))


class WhatHolds(unittest.TestCase):
    def test_it_comes_to_the_set_point_and_never_goes_beyond(self):
        for lag in (1, 2, 3, 10, 49, 50):
            for low, high in ((0, 100), (20, 21), (200, 300)):
                told = start(lag, 300, 100, low, high, (0,), (1,))
                up = [seen[0] for seen in ask(told, set_to(high), *[pass_by(1)] * 198)[2:]]
                self.assertEqual(up, sorted(up))
                self.assertEqual(up[-1], high)
                down = [seen[0] for seen in ask(told, set_to(high), pass_by(300), set_to(low), *[pass_by(1)] * 196)[4:]]
                self.assertEqual(down, sorted(down, reverse=True))
                self.assertEqual(down[-1], low)

    def test_it_gets_nearer_every_minute(self):
        for lag in range(1, 51):
            told = start(lag, 300, 100, 0, 100, (0,), (1,))
            for gap in range(1, 101):
                warmth = ask(told, set_to(gap), pass_by(1))[2][0]
                self.assertTrue(lag * (warmth - 1) < gap <= lag * warmth, (lag, gap, warmth))

    def test_never_too_hot_and_the_cure_never_goes_back(self):
        chance = random.Random(7)
        for turn in range(300):
            told = Told()
            calls = [start(chance.choice([1, 3, 9]), 90, 40, 20, 200, (40, 80), (30, 400))]
            told.answer(calls[0])
            for number in range(30):
                calls += [some_call(chance, told), would(0), cured()]
                if calls[-3][0] == 0:
                    calls[-3] = pass_by(2)
                told.answer(calls[-3])
            seen = ask(*calls)
            self.assertTrue(all(now[0] <= 90 for now in seen[2::3]))
            self.assertTrue(all(warmth <= 90 for warmth in log_behind(*calls)))
            cures = [now[1] for now in seen[3::3]]
            for call, answered, before, after in zip(calls[4::3], seen[4::3], cures, cures[1:]):
                # Only another part is less cured than the one before.
                self.assertTrue(before <= after or call[0] == 14 and answered == [before] and after == 0, call)

    def test_minutes_at_once_or_one_behind_another(self):
        for lag in (1, 4, 50):
            told = (start(lag, 150, 100, 20, 200, (30, 90), (7, 300)), set_to(120))
            for first in (1, 2, 9, 40):
                for second in (1, 3, 50):
                    apart = ask(*told, pass_by(first), pass_by(second), would(1))[-2:]
                    at_once = ask(*told, pass_by(first + second), would(1))[-2:]
                    ahead = ask(*told, pass_by(first), would(second), would(second + 1))[-2:]
                    self.assertEqual(apart, at_once)
                    self.assertEqual(ahead, at_once)
                    self.assertEqual(ask(*told, *[pass_by(1)] * (first + second), would(1))[-2:], at_once)


if __name__ == "__main__":
    unittest.main()
