import unittest

from tests.lines import BIGGEST, ask, cooled, cured, follow, hottest, last, left, new_part, pass_by, run, safe
from tests.lines import seen_behind, set_to, start, would

WARM = (start(), set_to(100))
# A lag of 4 from 20 towards 100, by hand: the difference's quarter, rounded up; 10 a minute from 60, 100 from 100.
UP = [[20, 0], [40, 0], [55, 0], [67, 10], [76, 20], [82, 30], [87, 40], [91, 50], [94, 60], [96, 70], [97, 80],
      [98, 90], [99, 100], [100, 200], [100, 300], [100, 400]]
# And back to 20 from 100, cured by 300.
BACK = (*WARM, pass_by(14), set_to(20))
DOWN = [[100, 300], [80, 310], [65, 320], [53, 320], [44, 320], [38, 320], [33, 320], [29, 320], [26, 320], [24, 320],
        [23, 320], [22, 320], [21, 320], [20, 320], [20, 320]]
# Never too hot while it stays at 20, but with a set point of 120 it is too hot from the second minute on.
HOT = (start(lag=2, most=80, step=100, low=20, high=120, warms=(60,), rates=(1000,)), set_to(120))


class Pass(unittest.TestCase):
    def test_one_behind_another(self):
        self.assertEqual(ask(*WARM, *[pass_by(1)] * 15)[2:], UP[1:])
        self.assertEqual(ask(*BACK, *[pass_by(1)] * 14)[4:], DOWN[1:])

    def test_at_once(self):
        for minutes in range(1, 16):
            self.assertEqual(last(*WARM, pass_by(minutes)), UP[minutes])
        for minutes in range(1, 15):
            self.assertEqual(last(*BACK, pass_by(minutes)), DOWN[minutes])

    def test_the_set_point_stays(self):
        self.assertEqual(last(*WARM, pass_by(3), set_to(120)), [100])

    def test_bounds(self):
        self.assertEqual(last(*WARM, pass_by(300)), [100, 10000])
        for minutes in (0, 301, BIGGEST):
            self.assertEqual(last(*WARM, pass_by(minutes)), [-22])

    def test_a_lag_of_1(self):
        self.assertEqual(ask(start(lag=1), set_to(120), pass_by(1), set_to(20), pass_by(1))[2:],
                         [[120, 100], [120], [20, 100]])

    def test_a_lag_of_50(self):
        told = start(lag=50, low=20, high=200)
        self.assertEqual(ask(told, set_to(70), pass_by(1), pass_by(49), pass_by(1))[2:], [[21, 0], [70, 110], [70, 120]])
        self.assertEqual(ask(told, set_to(71), pass_by(1))[2], [22, 0])

    def test_a_difference_of_1(self):
        for lag in (1, 2, 50):
            told = start(lag=lag)
            self.assertEqual(ask(told, set_to(21), pass_by(1), pass_by(1), set_to(20), pass_by(1), pass_by(1))[2:],
                             [[21, 0], [21, 0], [21], [20, 0], [20, 0]])

    def test_no_difference(self):
        self.assertEqual(last(start(), pass_by(300)), [20, 0])

    def test_too_hot(self):
        self.assertEqual(ask(*HOT, pass_by(2), pass_by(300), pass_by(1), pass_by(1))[2:],
                         [[-62], [-62], [70, 1000], [-62]])

    def test_a_set_point_just_the_most(self):
        told = start(lag=1, most=100)
        self.assertEqual(last(told, set_to(100), pass_by(300)), [100, 10000])
        self.assertEqual(last(told, set_to(101), pass_by(1)), [-62])
        self.assertEqual(last(told, set_to(99), pass_by(1)), [99, 10])

    def test_a_part_that_is_as_warm_as_may_be(self):
        told = start(most=20)
        self.assertEqual(ask(told, pass_by(300), set_to(21), pass_by(1))[1:], [[20, 0], [20], [-62]])

    def test_out_of_bounds_is_named_first(self):
        for minutes in (0, 301, BIGGEST):
            self.assertEqual(last(*HOT, pass_by(minutes)), [-22])

    def test_a_refused_one_changes_nothing(self):
        before = (*HOT, pass_by(1))
        for minutes, number in ((0, -22), (1, -62), (300, -62), (301, -22), (BIGGEST, -22)):
            self.assertEqual(last(*before, pass_by(minutes)), [number])
            self.assertEqual(seen_behind(*before, pass_by(minutes)), seen_behind(*before))


class Cure(unittest.TestCase):
    def test_the_last_row_that_it_reaches(self):
        told = start(lag=1, low=0, warms=(10, 20, 30), rates=(5, 700, 60))
        for point, cure in ((0, 0), (9, 0), (10, 5), (19, 5), (20, 700), (29, 700), (30, 60), (31, 60), (100, 60)):
            self.assertEqual(last(told, set_to(point), pass_by(1)), [point, cure])

    def test_a_table_reached_by_nothing(self):
        told = start(most=300, high=120, warms=(121, 300), rates=(10000, 10000))
        self.assertEqual(ask(told, set_to(120), pass_by(300), left(), cured())[2:], [[120, 0], [-33], [0, 0]])

    def test_a_row_of_no_warmth_is_reached_always(self):
        self.assertEqual(last(start(low=0, warms=(0,), rates=(3,)), pass_by(7)), [0, 21])

    def test_a_row_of_300(self):
        told = start(lag=1, most=300, low=299, high=300, warms=(300,), rates=(10000,))
        self.assertEqual(ask(told, pass_by(1), set_to(300), pass_by(1))[1:], [[299, 0], [299], [300, 10000]])

    def test_it_cures_no_further_than_10000(self):
        told = start(warms=(0,), rates=(3333,))
        self.assertEqual(ask(told, pass_by(3), cured(), pass_by(1), cured(), pass_by(1), cured())[1:],
                         [[20, 9999], [0, 9999], [20, 10000], [1, 10000], [20, 10000], [1, 10000]])
        self.assertEqual(last(start(warms=(0,), rates=(10000,)), pass_by(300)), [20, 10000])


class Would(unittest.TestCase):
    def test_ordinary(self):
        for minutes, told in enumerate(UP):
            self.assertEqual(last(*WARM, would(minutes)), told)
        for minutes, told in enumerate(DOWN):
            self.assertEqual(last(*BACK, would(minutes)), told)

    def test_bounds(self):
        self.assertEqual(ask(*WARM, would(0), would(300), would(301), would(BIGGEST))[2:],
                         [[20, 0], [100, 10000], [-22], [-22]])

    def test_the_300th_minute_counts(self):
        told = start(warms=(0,), rates=(33,))
        self.assertEqual(ask(told, would(299), would(300))[1:], [[20, 9867], [20, 9900]])

    def test_too_hot_is_told_all_the_same(self):
        self.assertEqual(ask(*HOT, would(2), would(300))[2:], [[95, 2000], [120, 10000]])


class Hottest(unittest.TestCase):
    def test_going_up(self):
        self.assertEqual(ask(*WARM, *[hottest(minutes) for minutes in range(16)])[2:], [[warmth] for warmth, cure in UP])

    def test_going_down_it_is_now(self):
        self.assertEqual(ask(*BACK, hottest(0), hottest(1), hottest(300))[4:], [[100], [100], [100]])

    def test_bounds(self):
        self.assertEqual(ask(*WARM, hottest(0), hottest(300), hottest(301), hottest(BIGGEST))[2:],
                         [[20], [100], [-22], [-22]])

    def test_too_hot_is_told_all_the_same(self):
        self.assertEqual(last(*HOT, hottest(300)), [120])


class Safe(unittest.TestCase):
    def test_ordinary(self):
        # Towards 120 by halves: 70, then 95, which is above 80.
        self.assertEqual(ask(*HOT, safe(0), safe(1), safe(2), safe(3), safe(300))[2:], [[1], [1], [0], [0], [0]])
        self.assertEqual(ask(*WARM, safe(0), safe(1), safe(300))[2:], [[1], [1], [1]])

    def test_bounds(self):
        for calls in (WARM, HOT):
            self.assertEqual(ask(*calls, safe(301), safe(BIGGEST))[2:], [[-22], [-22]])
        self.assertEqual(ask(*WARM, safe(300))[2:], [[1]])

    def test_the_last_minute_counts(self):
        # From 0 to 100 by one part in 50: 25 minutes by 2, then 50 by 1.
        told = dict(lag=50, step=100, low=0, high=100)
        self.assertEqual(ask(start(most=99, **told), set_to(100), safe(74), safe(75), safe(300))[2:], [[1], [0], [0]])
        self.assertEqual(ask(start(most=100, **told), set_to(100), safe(75), safe(300))[2:], [[1], [1]])

    def test_a_set_point_just_the_most(self):
        told = start(lag=1, most=100)
        self.assertEqual(ask(told, set_to(100), safe(300), set_to(101), safe(0), safe(1))[2::2], [[1], [1]])
        self.assertEqual(last(told, set_to(101), safe(1)), [0])

    def test_going_down_from_the_most(self):
        self.assertEqual(ask(start(most=90), new_part(90), safe(0), safe(1), safe(300))[2:], [[1], [1], [1]])

    def test_it_is_whether_pass_is_not_too_hot(self):
        for point in range(20, 121):
            for minutes in (1, 2, 3, 5, 300):
                calls = (HOT[0], set_to(point))
                self.assertEqual(last(*calls, safe(minutes)) == [1], last(*calls, pass_by(minutes)) != [-62])

    def test_it_answers_whole_numbers(self):
        for minutes in (1, 2):
            self.assertIs(type(last(*HOT, safe(minutes))[0]), int)


class Left(unittest.TestCase):
    def test_ordinary(self):
        self.assertEqual(ask(*WARM, left(), pass_by(11), left(), pass_by(99), left(), pass_by(1), left())[2:],
                         [[111], [98, 90], [100], [100, 9900], [1], [100, 10000], [0]])

    def test_with_the_set_point_as_it_is(self):
        self.assertEqual(ask(*WARM, pass_by(110), set_to(20), left(), set_to(99), left())[3:], [[100], [-33], [20], [10]])

    def test_the_cure_goes_on_while_it_cools(self):
        told = start(lag=1, low=50, warms=(60,), rates=(5000,))
        self.assertEqual(ask(told, left(), set_to(60), left(), pass_by(1), set_to(50), left())[1:],
                         [[-33], [50], [2], [60, 5000], [60], [-33]])

    def test_in_300_minutes_and_not_in_301(self):
        told = start(warms=(0,), rates=(33,))
        self.assertEqual(ask(told, left(), pass_by(3), left(), pass_by(1), left(), pass_by(1), left())[1:],
                         [[-33], [20, 99], [-33], [20, 132], [300], [20, 165], [299]])

    def test_cured_already(self):
        told = start(warms=(0,), rates=(10000,))
        self.assertEqual(ask(told, left(), pass_by(1), left(), pass_by(300), left())[1:],
                         [[1], [20, 10000], [0], [20, 10000], [0]])

    def test_too_hot_does_not_count(self):
        self.assertEqual(last(*HOT, left()), [10])


class Cooled(unittest.TestCase):
    def test_going_down(self):
        for minutes, (warmth, cure) in enumerate(DOWN[:14]):
            self.assertEqual(last(*BACK, cooled(warmth)), [minutes])
        self.assertEqual(ask(*BACK, cooled(101), cooled(99), cooled(79), cooled(66), cooled(19), cooled(0))[4:],
                         [[0], [1], [2], [2], [-33], [-33]])

    def test_going_up(self):
        self.assertEqual(ask(*WARM, cooled(20), cooled(300), cooled(19), cooled(0))[2:], [[0], [0], [-33], [-33]])

    def test_bounds(self):
        for calls in (WARM, BACK):
            self.assertEqual(ask(*calls, cooled(300), cooled(301), cooled(BIGGEST))[len(calls):], [[0], [-22], [-22]])

    def test_the_slowest_way_down(self):
        # From 300 to 0: 9 minutes by 6 to 246, 10 by 5 to 196, 12 by 4 to 148, 16 by 3 to 100, 25 by 2, 50 by 1.
        told = (start(lag=50, most=300, low=0, high=300), set_to(100), set_to(200), set_to(300), pass_by(300))
        down = (set_to(200), set_to(100), set_to(0))
        self.assertEqual(ask(*told, *down, cooled(300), cooled(294), cooled(293), cooled(1), cooled(0))[8:],
                         [[0], [1], [2], [121], [122]])


class LookingAhead(unittest.TestCase):
    def test_it_changes_nothing(self):
        looks = (would(0), would(7), would(300), would(301), hottest(0), hottest(300), hottest(301), left(), cooled(0),
                 cooled(40), cooled(300), cooled(301), cured(), run(), run(99, 98), run(*[100] * 30), run(*[100] * 31),
                 safe(0), safe(1), safe(300), safe(301))
        for before in (WARM, BACK, (*HOT, pass_by(1)), (*WARM, pass_by(3), follow(30, 50)), (*WARM, pass_by(300))):
            for look in looks:
                with self.subTest(before=before, look=look):
                    self.assertEqual(seen_behind(*before, look), seen_behind(*before))
            self.assertEqual(seen_behind(*before, *looks), seen_behind(*before))


if __name__ == "__main__":
    unittest.main()
