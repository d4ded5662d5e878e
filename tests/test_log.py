import unittest

from tests.lines import BIGGEST, ask, cured, farthest, follow, hottest, last, left, log, log_behind, need, new_part
from tests.lines import next_points, pass_by, rate, run, safe, seen_behind, set_to, soonest, start, state, would

# With a lag of 1 the log shows the set points of the minutes.
TOLD = start(lag=1, most=250, step=100, low=20, high=300, warms=(60,), rates=(10,))
# A hundred minutes and more, each of another warmth: 21, 22, .. 140.
LONG = (start(lag=1, most=300, step=1, low=20, high=300), *[follow(*range(first, first + 30)) for first in (21, 51, 81, 111)])


class Log(unittest.TestCase):
    def test_before_any_minute(self):
        self.assertEqual(ask(TOLD, log(0), log(1), log(BIGGEST))[1:], [[-6]] * 3)

    def test_the_last_minute_but_so_many(self):
        calls = (start(), set_to(100), pass_by(5))
        self.assertEqual(ask(*calls, *[log(back) for back in range(7)])[3:], [[82], [76], [67], [55], [40], [-6], [-6]])

    def test_through_pass_and_follow(self):
        calls = (TOLD, set_to(30), pass_by(2), follow(50, 70, 40), set_to(99), pass_by(1))
        self.assertEqual(log_behind(*calls), [99, 40, 70, 50, 30, 30])

    def test_a_set_point_without_a_minute_is_not_in_it(self):
        self.assertEqual(log_behind(TOLD, set_to(30), set_to(40), pass_by(1), set_to(90)), [40])

    def test_of_older_parts_too(self):
        calls = (TOLD, set_to(30), pass_by(1), new_part(200))
        self.assertEqual(log_behind(*calls), [30])
        self.assertEqual(log_behind(*calls, follow(50), new_part(0), new_part(7), follow(60, 61)), [61, 60, 50, 30])

    def test_100_are_kept(self):
        self.assertEqual(log_behind(*LONG), list(range(140, 40, -1)))
        self.assertEqual(ask(*LONG, log(98), log(99), log(100), log(101), log(BIGGEST))[5:],
                         [[42], [41], [-6], [-6], [-6]])

    def test_at_99_at_100_and_at_101(self):
        for minutes, oldest in ((9, 21), (10, 21), (11, 22)):
            calls = (*LONG[:4], follow(*range(111, 111 + minutes)))
            kept = log_behind(*calls)
            self.assertEqual((len(kept), kept[0], kept[-1]), (min(90 + minutes, 100), 110 + minutes, oldest))
            self.assertEqual(last(*calls, state())[4], len(kept))

    def test_more_than_100_at_once(self):
        calls = (start(lag=50, most=300, step=100, low=0, high=300), set_to(100), pass_by(300))
        self.assertEqual(log_behind(*calls), [100] * 100)
        # From 0 towards 100 by one part in 50: 25 minutes by 2, then 50 by 1. The first of them is kept no more.
        warmths = [*range(2, 51, 2), *range(51, 101), *[100] * 26]
        self.assertEqual(log_behind(*calls[:2], pass_by(101)), warmths[:0:-1])

    def test_100_across_a_new_part_and_a_refused_call(self):
        calls = (*LONG, new_part(200), follow(301), pass_by(301), start(lag=0), new_part(301), follow(141), pass_by(1))
        self.assertEqual(log_behind(*calls), [141, 141] + list(range(140, 42, -1)))

    def test_a_refused_call_puts_nothing_in(self):
        calls = (TOLD, set_to(100), pass_by(2), follow(90), set_to(190), set_to(251))
        for refused in (pass_by(1), pass_by(0), pass_by(301), follow(200, 251), follow(), follow(*[200] * 31), follow(20),
                        set_to(19), new_part(251), start(step=0), soonest(7), log(3)):
            with self.subTest(refused):
                self.assertLess(last(*calls, refused)[0], 0)
                self.assertEqual(log_behind(*calls, refused), [90, 100, 100])

    def test_what_only_looks_puts_nothing_in(self):
        looks = (would(9), hottest(9), left(), cured(), run(90, 80), soonest(2), farthest(2), rate(9), next_points(), log(0),
                 safe(9), need(9), state())
        calls = (TOLD, set_to(100), pass_by(2), follow(90))
        self.assertEqual(log_behind(*calls, *looks), [90, 100, 100])

    def test_a_start_that_comes_again_begins_it_anew(self):
        self.assertEqual(ask(*LONG, TOLD, log(0), state())[6:], [[-6], [0, 20, 20, 0, 0]])
        self.assertEqual(log_behind(*LONG, TOLD, follow(70, 80)), [80, 70])

    def test_a_start_that_is_refused_leaves_it(self):
        self.assertEqual(log_behind(*LONG, start(lag=51)), log_behind(*LONG))

    def test_minutes_at_once_or_one_behind_another(self):
        slow = (start(lag=6, most=200, step=100, low=20, high=200), set_to(120))
        for minutes in (1, 7, 40, 120):
            self.assertEqual(log_behind(*slow, pass_by(minutes)), log_behind(*slow, *[pass_by(1)] * minutes))
        points = (110, 100, 90, 80)
        self.assertEqual(log_behind(*slow, follow(*points)), log_behind(*slow, *[follow(point) for point in points]))

    def test_it_changes_nothing(self):
        for calls in ((TOLD,), LONG, (*LONG, new_part(3))):
            for back in (0, 5, 99, 100, BIGGEST):
                self.assertEqual(seen_behind(*calls, log(back)), seen_behind(*calls))


class State(unittest.TestCase):
    def test_at_the_start(self):
        self.assertEqual(last(start(low=37), state()), [0, 37, 37, 0, 0])

    def test_minutes_warmth_set_point_cure_and_log(self):
        calls = (start(), set_to(100), state(), pass_by(3), state(), set_to(60), state(), follow(80, 120), state())
        # 67, then 71 towards 80, then 84 towards 120.
        self.assertEqual(ask(*calls)[2::2],
                         [[0, 20, 100, 0, 0], [3, 67, 100, 10, 3], [3, 67, 60, 10, 3], [5, 84, 120, 30, 5]])

    def test_a_new_part(self):
        self.assertEqual(last(start(), set_to(100), pass_by(3), new_part(5), state()), [3, 5, 100, 0, 3])

    def test_the_minutes_go_on_beyond_100(self):
        self.assertEqual(ask(TOLD, pass_by(99), state(), pass_by(1), state(), pass_by(1), state(), pass_by(300),
                             state())[2::2],
                         [[99, 20, 20, 0, 99], [100, 20, 20, 0, 100], [101, 20, 20, 0, 100], [401, 20, 20, 0, 100]])

    def test_as_many_minutes_as_may_be(self):
        self.assertEqual(last(TOLD, *[pass_by(300)] * 198, state()), [59400, 20, 20, 0, 100])

    def test_cured(self):
        self.assertEqual(last(start(warms=(0,), rates=(9999,)), pass_by(5), state()), [5, 20, 20, 10000, 5])

    def test_a_refused_call_changes_none_of_it(self):
        calls = (TOLD, set_to(100), pass_by(2), follow(90, 190), set_to(251))
        due = [4, 190, 251, 40, 4]
        self.assertEqual(last(*calls, state()), due)
        for refused in (pass_by(1), pass_by(0), pass_by(301), follow(251), follow(), follow(*[200] * 31), follow(20),
                        set_to(19), set_to(150), new_part(251), start(step=0), start(low=400), log(4), rate(301), safe(301)):
            with self.subTest(refused):
                self.assertLess(last(*calls, refused)[0], 0)
                self.assertEqual(last(*calls, refused, state()), due)

    def test_a_start_that_comes_again(self):
        self.assertEqual(ask(TOLD, set_to(90), pass_by(7), start(low=50), state(), pass_by(1), state())[4::2],
                         [[0, 50, 50, 0, 0], [1, 50, 50, 0, 1]])

    def test_it_changes_nothing(self):
        for calls in ((TOLD,), LONG, (*LONG, new_part(3))):
            self.assertEqual(seen_behind(*calls, state()), seen_behind(*calls))
            self.assertEqual(seen_behind(*calls, state(), state()), seen_behind(*calls))


if __name__ == "__main__":
    unittest.main()
