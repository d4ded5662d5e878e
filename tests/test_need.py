import unittest

from tests.lines import BIGGEST, ask, cured, follow, last, left, need, new_part, pass_by, safe, seen_behind, set_to, start

QUICK = start(lag=1, most=100, step=30, low=20, high=150, warms=(60, 90), rates=(10, 1000))
# The rates neither rise nor fall with the warmth.
UNEVEN = dict(lag=1, step=30, low=20, high=150, warms=(50, 60, 70), rates=(1000, 0, 5000))
HALF = dict(lag=2, step=30, low=20, high=120)


class Need(unittest.TestCase):
    def test_ordinary(self):
        self.assertEqual(ask(QUICK, need(10), need(9), need(11), need(60))[1:], [[90], [-33], [90], [90]])

    def test_the_least(self):
        told = start(lag=1, most=300, step=30, low=20, high=300, warms=(60, 90, 120), rates=(200, 1000, 10000))
        self.assertEqual(ask(told, need(60), need(50), need(49), need(10), need(9), need(1))[1:],
                         [[60], [60], [90], [90], [120], [120]])

    def test_every_set_point_is_tried(self):
        told = start(most=100, **UNEVEN)
        self.assertEqual(ask(told, need(10), need(9), need(2), need(1))[1:], [[50], [70], [70], [-33]])

    def test_low_and_high_count(self):
        told = dict(lag=1, most=300, step=1, low=20, warms=(20, 21), rates=(1000, 5000))
        self.assertEqual(ask(start(high=20, **told), need(10), need(9))[1:], [[20], [-33]])
        self.assertEqual(ask(start(high=21, **told), need(10), need(9), need(2), need(1))[1:], [[20], [21], [21], [-33]])

    def test_none_below_low_and_none_above_high(self):
        told = dict(lag=1, most=300, step=1, warms=(20, 21, 31), rates=(10000, 0, 10000))
        self.assertEqual(last(start(low=21, high=30, **told), need(60)), [-33])
        self.assertEqual(last(start(low=21, high=31, **told), need(60)), [31])
        self.assertEqual(last(start(low=20, high=30, **told), need(60)), [20])

    def test_whatever_it_is_now(self):
        told = start(lag=1, most=300, step=1, low=20, high=300, warms=(250,), rates=(10000,))
        self.assertEqual(last(told, need(1)), [250])
        up = (QUICK, set_to(50), set_to(80), set_to(110), set_to(140))
        self.assertEqual(ask(*up, need(10), need(9))[5:], [[90], [-33]])

    def test_bounds(self):
        told = start(lag=1, warms=(30,), rates=(167,))
        self.assertEqual(ask(told, need(60), need(59), need(61), need(BIGGEST))[1:], [[30], [-33], [-22], [-22]])
        self.assertEqual(last(start(lag=1, warms=(30,), rates=(166,)), need(60)), [-33])

    def test_out_of_bounds_is_named_first(self):
        told = start(warms=(300,), rates=(10000,), high=299)
        self.assertEqual(ask(told, need(60), need(61))[1:], [[-33], [-22]])

    def test_with_a_lag(self):
        # Half of the way from 20, rounded up: 99 leads to 60 in a minute, 73 to 47 and then to 60.
        told = start(most=60, warms=(60,), rates=(10000,), **HALF)
        self.assertEqual(ask(told, need(0), need(1), need(2), need(60))[1:], [[-33], [99], [73], [60]])

    def test_too_hot_in_none_of_them(self):
        # In both minutes it must be at 60 at least: towards 99 it is at 60, then at 80.
        self.assertEqual(last(start(most=80, warms=(60,), rates=(5000,), **HALF), need(2)), [99])
        self.assertEqual(last(start(most=79, warms=(60,), rates=(5000,), **HALF), need(2)), [-33])

    def test_too_hot_when_it_is_cured_already(self):
        # Only 119 and 120 lead to 70 in the first minute; in the second they lead to 95.
        told = dict(lag=2, step=30, low=90, high=120, warms=(70, 71), rates=(10000, 0))
        self.assertEqual(ask(start(most=90, **told), new_part(20), need(1), need(2))[2:], [[119], [-33]])
        self.assertEqual(ask(start(most=94, **told), new_part(20), need(1), need(2))[2:], [[119], [-33]])
        self.assertEqual(ask(start(most=95, **told), new_part(20), need(1), need(2), need(3))[2:], [[119], [119], [-33]])

    def test_a_set_point_just_the_most(self):
        told = dict(lag=1, step=30, low=20, high=150, warms=(90,), rates=(10000,))
        self.assertEqual(last(start(most=90, **told), need(1)), [90])
        self.assertEqual(last(start(most=89, **told), need(1)), [-33])

    def test_a_lower_one_that_is_not_too_hot_comes_ahead(self):
        self.assertEqual(ask(start(most=69, **UNEVEN), need(10), need(9))[1:], [[50], [-33]])

    def test_from_where_it_is(self):
        self.assertEqual(ask(QUICK, follow(50, 80, 90, 90), need(8), need(7), pass_by(8), need(0))[2:],
                         [[90], [-33], [90, 10000], [20]])

    def test_while_it_cools(self):
        # From 100 towards 20 by halves: 60, 40, 30, 25, 22, 21, 20; it cures in the first two of them.
        told = (start(most=100, warms=(40,), rates=(5000,), **HALF), new_part(100))
        self.assertEqual(ask(*told, need(1), need(2), need(60))[2:], [[-33], [20], [20]])
        # Towards 21 only one minute counts, 60, 40; towards 22 both: 61, 41.
        told = (start(most=100, warms=(41,), rates=(5000,), **HALF), new_part(100))
        self.assertEqual(ask(*told, need(2), need(3))[2:], [[22], [22]])

    def test_cured_already(self):
        told = (start(lag=1, low=20, warms=(0,), rates=(10000,)), set_to(90), pass_by(1))
        self.assertEqual(ask(*told, need(0), need(1), need(60), need(61))[3:], [[20], [20], [20], [-22]])

    def test_no_minutes(self):
        self.assertEqual(last(start(warms=(0,), rates=(10000,)), need(0)), [-33])

    def test_a_table_reached_by_nothing(self):
        told = start(lag=1, most=300, high=200, warms=(201,), rates=(10000,))
        self.assertEqual(ask(told, need(1), need(60))[1:], [[-33], [-33]])

    def test_it_is_what_left_and_safe_tell(self):
        for lag, minutes in ((1, 2), (3, 5), (7, 9), (20, 12), (50, 40)):
            told = start(lag, 70, 100, 10, 110, (12, 30, 40, 66), (100, 1500, 700, 4000))
            good = []
            for point in range(10, 111):
                seen = ask(told, set_to(point), left(), safe(minutes))[2:]
                if 0 <= seen[0][0] <= minutes and seen[1] == [1]:
                    good.append(point)
            with self.subTest(lag):
                self.assertEqual(last(told, need(minutes)), (good or [-33])[:1])

    def test_it_changes_nothing(self):
        for calls in ((QUICK,), (QUICK, set_to(50), pass_by(3)), (QUICK, follow(50, 80, 90, 90), new_part(7))):
            for minutes in (0, 1, 10, 60, 61):
                with self.subTest(calls=calls, minutes=minutes):
                    self.assertEqual(seen_behind(*calls, need(minutes)), seen_behind(*calls))

    def test_with_it_it_is_cured(self):
        told = start(lag=5, most=90, step=100, low=20, high=120, warms=(50, 80), rates=(200, 800))
        point = last(told, need(30))[0]
        self.assertEqual(last(told, set_to(point), pass_by(30), cured()), [1, 10000])
        self.assertEqual(last(told, set_to(point - 1), pass_by(30), cured())[0], 0)


if __name__ == "__main__":
    unittest.main()
