import unittest
from itertools import product

from tests.lines import BIGGEST, ask, cured, farthest, follow, last, new_part, next_points, pass_by, run, seen_behind
from tests.lines import set_to, soonest, start, state

# With a lag of 1 the part is as warm as the set point of its minute: 50, 80, 80 cures it, and 110 is too hot.
FAST = start(lag=1, most=100, step=30, low=20, high=150, warms=(50, 80), rates=(1000, 5000))
# The part lags behind, so a set point above the most may do for a while.
SLOW = start(lag=3, most=100, step=40, low=20, high=180, warms=(40, 70, 90), rates=(300, 2500, 4000))
# The warmer, the less it cures: the best programmes go down.
FALLING = (start(lag=2, most=120, step=25, low=0, high=120, warms=(0, 30, 80), rates=(4000, 900, 100)), new_part(100),
           set_to(25), set_to(50), set_to(75), set_to(100))
NOTHING = start(lag=1, most=300, step=10, low=20, high=40, warms=(41,), rates=(10000,))
ALWAYS = start(lag=1, most=100, step=30, low=20, high=150, warms=(0,), rates=(5000,))
# The set point has run so far ahead that wherever it goes by a step, the next minute is too hot.
TRAPPED = (start(lag=1, most=20, step=10, low=20, high=60, warms=(0,), rates=(2500,)), set_to(30), set_to(40))


class Next(unittest.TestCase):
    def test_down_the_same_up(self):
        self.assertEqual(last(FAST, set_to(50), next_points()), [3, 20, 50, 80])
        self.assertEqual(last(FAST, set_to(50), set_to(77), next_points()), [3, 47, 77, 107])

    def test_a_step_that_leads_below_low(self):
        self.assertEqual(last(FAST, next_points()), [2, 20, 50])
        self.assertEqual(last(FAST, set_to(49), next_points()), [2, 49, 79])
        self.assertEqual(last(start(low=0, step=30), set_to(29), next_points()), [2, 29, 59])
        self.assertEqual(last(start(low=0, step=30), set_to(30), next_points()), [3, 0, 30, 60])

    def test_a_step_that_leads_above_high(self):
        up = (FAST, set_to(50), set_to(80), set_to(110))
        self.assertEqual(last(*up, set_to(120), next_points()), [3, 90, 120, 150])
        self.assertEqual(last(*up, set_to(121), next_points()), [2, 91, 121])

    def test_neither(self):
        self.assertEqual(last(start(low=20, high=20), next_points()), [1, 20])
        self.assertEqual(last(start(low=20, high=119, step=100), next_points()), [1, 20])
        self.assertEqual(last(start(low=20, high=120, step=100), next_points()), [2, 20, 120])

    def test_too_hot_does_not_count(self):
        self.assertEqual(last(*TRAPPED, next_points()), [3, 30, 40, 50])

    def test_the_set_point_counts_not_the_warmth(self):
        self.assertEqual(ask(FAST, set_to(50), next_points(), pass_by(3), next_points(), new_part(0), next_points())[2::2],
                         [[3, 20, 50, 80]] * 3)


class Soonest(unittest.TestCase):
    def test_ordinary(self):
        for minutes in (3, 4, 5, 6):
            self.assertEqual(last(FAST, soonest(minutes)), [3, 50, 80, 80])
        for minutes in (0, 1, 2):
            self.assertEqual(last(FAST, soonest(minutes)), [-33])

    def test_from_where_it_is(self):
        self.assertEqual(ask(FAST, follow(50), soonest(6), follow(80), soonest(6), follow(80), soonest(6))[2::2],
                         [[2, 80, 80], [1, 80], [0]])

    def test_bounds(self):
        for minutes in (7, 8, 60, BIGGEST):
            self.assertEqual(last(FAST, soonest(minutes)), [-22])
        self.assertEqual(last(FAST, soonest(6)), [3, 50, 80, 80])

    def test_in_6_minutes_and_not_in_7(self):
        told = start(lag=1, warms=(0,), rates=(1667,))
        self.assertEqual(ask(told, soonest(6), soonest(5))[1:], [[6] + [20] * 6, [-33]])
        self.assertEqual(last(start(lag=1, warms=(0,), rates=(1666,)), soonest(6)), [-33])

    def test_out_of_bounds_is_named_first(self):
        self.assertEqual(ask(*TRAPPED, soonest(7), soonest(6))[3:], [[-22], [-33]])
        self.assertEqual(ask(NOTHING, soonest(7), soonest(6))[1:], [[-22], [-33]])
        self.assertEqual(last(ALWAYS, pass_by(2), soonest(7)), [-22])

    def test_the_first_in_order(self):
        self.assertEqual(last(ALWAYS, soonest(6)), [2, 20, 20])
        self.assertEqual(last(ALWAYS, set_to(50), soonest(6)), [2, 20, 20])
        self.assertEqual(last(ALWAYS, set_to(50), set_to(80), soonest(6)), [2, 50, 20])
        self.assertEqual(last(ALWAYS, set_to(50), set_to(79), soonest(6)), [2, 49, 49])
        self.assertEqual(last(start(lag=1, step=1, low=0, warms=(0,), rates=(5000,)), soonest(2)), [2, 0, 0])

    def test_staying_comes_ahead_of_going_up(self):
        told = start(lag=1, most=100, step=30, low=20, high=150, warms=(20, 50), rates=(4000, 6000))
        self.assertEqual(last(told, soonest(6)), [2, 20, 50])

    def test_a_shorter_one_comes_ahead_of_an_earlier_one_in_order(self):
        told = start(lag=1, most=100, step=30, low=20, high=150, warms=(0, 50), rates=(5000, 10000))
        self.assertEqual(last(told, soonest(6)), [1, 50])

    def test_a_step_that_leads_below_low_is_not_cut_short(self):
        told = start(lag=1, most=100, step=30, low=20, high=150, warms=(0, 21, 49), rates=(10000, 0, 5000))
        # From 49 a step down would be 19: only from 50 does it come to 20.
        self.assertEqual(last(told, set_to(49), soonest(6)), [2, 49, 49])
        self.assertEqual(last(told, set_to(50), soonest(6)), [1, 20])

    def test_a_step_that_leads_above_high_is_not_cut_short(self):
        told = start(lag=1, most=100, step=30, low=20, high=79, warms=(79,), rates=(10000,))
        self.assertEqual(last(told, soonest(6)), [-33])
        self.assertEqual(last(told, set_to(49), soonest(6)), [1, 79])

    def test_too_hot_in_no_minute(self):
        hot = dict(lag=1, step=30, low=20, high=150, warms=(80, 110), rates=(2500, 10000))
        self.assertEqual(last(start(most=110, **hot), soonest(6)), [3, 50, 80, 110])
        self.assertEqual(last(start(most=109, **hot), soonest(6)), [5, 50, 80, 80, 80, 80])
        # Too hot even in the minute in which it would be cured.
        self.assertEqual(last(start(most=79, **hot), soonest(6)), [-33])

    def test_a_set_point_just_the_most(self):
        told = dict(lag=1, step=30, low=20, high=80, warms=(80,), rates=(10000,))
        self.assertEqual(last(start(most=80, **told), soonest(6)), [2, 50, 80])
        self.assertEqual(last(start(most=79, **told), soonest(6)), [-33])

    def test_a_set_point_above_the_most(self):
        # A third of the way: from 20 towards 60, 100, 140: 34, 56, 84.
        told = start(lag=3, most=84, step=40, low=20, high=180, warms=(84,), rates=(10000,))
        self.assertEqual(last(told, soonest(6)), [3, 60, 100, 140])

    def test_by_whole_steps_alone(self):
        # 60 is reached in one minute by going up by 40 of the 60 that a step is, but not by whole steps.
        told = start(lag=1, most=79, step=60, low=20, high=200, warms=(60,), rates=(10000,))
        self.assertEqual(ask(told, run(60), soonest(6))[1:], [[60, 10000], [-33]])

    def test_a_table_reached_by_nothing(self):
        for minutes in range(7):
            self.assertEqual(last(NOTHING, soonest(minutes)), [-33])

    def test_cured_already(self):
        for minutes in range(7):
            self.assertEqual(last(ALWAYS, pass_by(2), soonest(minutes)), [0])
        # Even where no programme of a minute does.
        trapped = start(lag=1, most=20, step=10, low=20, high=60, warms=(0,), rates=(10000,))
        self.assertEqual(last(trapped, pass_by(1), set_to(30), set_to(40), soonest(6)), [0])

    def test_a_part_that_is_as_warm_as_may_be(self):
        told = (start(lag=1, most=100, step=30, low=20, high=150, warms=(70, 100), rates=(2000, 9000)), new_part(100))
        self.assertEqual(last(*told, set_to(50), set_to(70), soonest(2)), [2, 70, 100])
        self.assertEqual(last(*told, set_to(50), set_to(80), set_to(100), soonest(2)), [2, 70, 100])

    def test_with_a_lag_of_50(self):
        told = start(lag=50, most=300, step=100, low=0, high=300, warms=(11,), rates=(10000,))
        # 2 towards 100, 6 towards 200, 12 towards 300; staying at 200 it's 10.
        self.assertEqual(last(told, soonest(6)), [3, 100, 200, 300])


class Farthest(unittest.TestCase):
    def test_ordinary(self):
        self.assertEqual(ask(FAST, *[farthest(minutes) for minutes in range(7)])[1:], [
            [0], [1000, 50], [6000, 50, 80], [10000, 50, 80, 80], [10000, 20, 50, 80, 80], [10000, 20, 20, 50, 80, 80],
            [10000, 20, 20, 20, 50, 80, 80]])

    def test_from_where_it_is(self):
        self.assertEqual(ask(FAST, follow(50, 50), farthest(1), follow(80), farthest(0), pass_by(1), farthest(1))[2::2],
                         [[7000, 80], [7000], [10000, 50]])

    def test_bounds(self):
        for minutes in (7, 8, 60, BIGGEST):
            self.assertEqual(last(FAST, farthest(minutes)), [-22])

    def test_the_sixth_minute_counts(self):
        told = start(lag=1, warms=(0,), rates=(1666,))
        self.assertEqual(ask(told, farthest(6), farthest(5))[1:], [[9996] + [20] * 6, [8330] + [20] * 5])

    def test_an_empty_programme(self):
        for calls in ((FAST,), (FAST, follow(50, 80)), TRAPPED, (NOTHING,), (ALWAYS, pass_by(2))):
            self.assertEqual(last(*calls, farthest(0)), last(*calls, cured())[1:])

    def test_none_does(self):
        for minutes in range(1, 7):
            self.assertEqual(last(*TRAPPED, farthest(minutes)), [-33])
        self.assertEqual(last(*TRAPPED, farthest(0)), [0])

    def test_none_does_from_the_second_minute_on(self):
        # Half of the way, towards 80 at least and 60 at least: 50 in the first minute, 55 in the second.
        told = start(lag=2, most=54, step=20, low=20, high=200, warms=(0,), rates=(7,))
        up = (told, set_to(40), set_to(60), set_to(80), set_to(100))
        self.assertEqual(ask(*up, farthest(1), farthest(2), farthest(6))[5:], [[7, 80], [-33], [-33]])
        mild = start(lag=2, most=55, step=20, low=20, high=200, warms=(0,), rates=(7,))
        self.assertEqual(last(mild, *up[1:], farthest(2)), [14, 80, 60])

    def test_out_of_bounds_is_named_first(self):
        self.assertEqual(last(*TRAPPED, farthest(7)), [-22])
        self.assertEqual(last(*TRAPPED, farthest(BIGGEST)), [-22])

    def test_the_first_in_order(self):
        self.assertEqual(last(ALWAYS, set_to(50), set_to(80), farthest(1)), [5000, 50])
        self.assertEqual(last(ALWAYS, set_to(50), set_to(80), farthest(4)), [10000, 50, 20, 20, 20])
        self.assertEqual(last(ALWAYS, farthest(3)), [10000, 20, 20, 20])
        self.assertEqual(last(ALWAYS, set_to(49), farthest(3)), [10000, 49, 49, 49])

    def test_staying_comes_ahead_of_going_up(self):
        told = start(lag=1, most=100, step=30, low=20, high=150, warms=(20, 50), rates=(0, 3000))
        self.assertEqual(last(told, set_to(50), farthest(2)), [6000, 50, 50])

    def test_down_where_it_cures_further_there(self):
        # Half of the way: 87, 68, 46, 23.
        self.assertEqual(last(*FALLING, farthest(1)), [100, 75])
        self.assertEqual(last(*FALLING, farthest(2)), [1000, 75, 50])
        self.assertEqual(last(*FALLING, farthest(4)), [5900, 75, 50, 25, 0])

    def test_a_table_reached_by_nothing(self):
        self.assertEqual(ask(NOTHING, farthest(1), farthest(3))[1:], [[0, 20], [0, 20, 20, 20]])
        self.assertEqual(last(NOTHING, set_to(30), set_to(40), farthest(3)), [0, 30, 20, 20])

    def test_cured_already(self):
        self.assertEqual(ask(ALWAYS, pass_by(2), set_to(50), farthest(0), farthest(2))[3:], [[10000], [10000, 20, 20]])
        trapped = start(lag=1, most=20, step=10, low=20, high=60, warms=(0,), rates=(10000,))
        self.assertEqual(last(trapped, pass_by(1), set_to(30), set_to(40), farthest(1)), [-33])

    def test_too_hot_in_no_minute(self):
        hot = dict(lag=1, step=30, low=20, high=150, warms=(80, 110), rates=(25, 100))
        self.assertEqual(last(start(most=110, **hot), farthest(4)), [225, 50, 80, 110, 110])
        self.assertEqual(last(start(most=109, **hot), farthest(4)), [75, 50, 80, 80, 80])
        self.assertEqual(last(start(most=79, **hot), farthest(4)), [0, 20, 20, 20, 20])

    def test_a_set_point_above_the_most(self):
        told = start(lag=3, most=84, step=40, low=20, high=180, warms=(84,), rates=(10,))
        self.assertEqual(last(told, farthest(3)), [10, 60, 100, 140])


def programmes(calls, minutes):
    """Each programme by whole steps, in order, with what run tells of it."""
    lag, most, step, low, high = calls[0][1:6]
    point = last(*calls, state())[2]
    found = []
    for turns in product((-step, 0, step), repeat=minutes):
        points = [point + sum(turns[:turn + 1]) for turn in range(minutes)]
        if all(low <= other <= high for other in points):
            found.append(points)
    told = []
    for place in range(0, len(found), 100):
        told += ask(*calls, *[run(*points) for points in found[place:place + 100]])[len(calls):]
    return [(points, seen) for points, seen in zip(found, told) if seen != [-62]]


class AgainstEveryProgramme(unittest.TestCase):
    lines = ((FAST,), (SLOW,), (SLOW, set_to(60), set_to(100), set_to(140)), FALLING, (NOTHING,), (ALWAYS, set_to(50)),
             TRAPPED, (SLOW, follow(60, 100, 100)), (FAST, follow(50, 80)), (FAST, new_part(100), set_to(49)),
             (SLOW, new_part(0)))

    def test_no_shorter_one_and_none_that_cures_further_is_passed_over(self):
        for calls in self.lines:
            shortest = None
            for minutes in range(7):
                with self.subTest(calls=calls, minutes=minutes):
                    doing = programmes(calls, minutes)
                    done = [[minutes] + points for points, seen in doing if seen[1] == 10000]
                    if shortest is None and done:
                        shortest = done[0]
                    self.assertEqual(last(*calls, soonest(minutes)), shortest or [-33])
                    most = max([seen[1] for points, seen in doing], default=None)
                    furthest = [[most] + points for points, seen in doing if seen[1] == most]
                    self.assertEqual(last(*calls, farthest(minutes)), (furthest or [[-33]])[0])

    def test_when_it_is_told_to_be_cured_it_is_and_not_before(self):
        for calls in self.lines:
            told = last(*calls, soonest(6))
            if told[0] < 1:
                continue
            self.assertEqual(last(*calls, follow(*told[1:]), cured()), [1, 10000])
            for minutes in range(1, told[0]):
                self.assertEqual(last(*calls, follow(*told[1:minutes + 1]), cured())[0], 0)

    def test_the_farthest_is_come_to_by_following(self):
        for calls in self.lines:
            for minutes in range(1, 7):
                told = last(*calls, farthest(minutes))
                if told != [-33]:
                    self.assertEqual(last(*calls, follow(*told[1:]), cured())[1], told[0])


class Looking(unittest.TestCase):
    def test_it_changes_nothing(self):
        for calls in AgainstEveryProgramme.lines:
            for look in (next_points(), soonest(0), soonest(6), soonest(7), farthest(0), farthest(6), farthest(7)):
                with self.subTest(calls=calls, look=look):
                    self.assertEqual(seen_behind(*calls, look), seen_behind(*calls))


if __name__ == "__main__":
    unittest.main()
