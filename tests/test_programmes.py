import unittest

from tests.lines import BIGGEST, ask, cured, follow, last, pass_by, run, seen_behind, set_to, start, would

# With a lag of 1 the part is as warm as the set point of its minute.
QUICK = start(lag=1, most=100, step=30, low=20, high=150, warms=(60, 90), rates=(10, 1000))
SLOW = start(lag=4, most=100, step=100, low=20, high=200, warms=(60, 90), rates=(10, 1000))


class Cured(unittest.TestCase):
    def test_how_far(self):
        told = start(warms=(0,), rates=(2500,))
        self.assertEqual(ask(told, cured(), pass_by(1), cured(), pass_by(2), cured(), pass_by(1), cured())[1::2],
                         [[0, 0], [0, 2500], [0, 7500], [1, 10000]])

    def test_at_10000_and_not_at_9999(self):
        for rate, told in ((9999, [0, 9999]), (10000, [1, 10000])):
            self.assertEqual(last(start(warms=(0,), rates=(rate,)), pass_by(1), cured()), told)

    def test_it_answers_whole_numbers(self):
        for told in (ask(start(), cured())[1], ask(start(warms=(0,), rates=(10000,)), pass_by(1), cured())[2]):
            self.assertTrue(all(number is not True and number is not False for number in told))


class Programmes(unittest.TestCase):
    """What holds of run and of follow alike."""

    def both(self, told, *before, programme):
        for call in (run, follow):
            with self.subTest(call=call, programme=programme):
                self.assertEqual(last(*before, call(*programme)), told)

    def test_each_is_set_ahead_of_its_minute(self):
        self.both([30, 0], QUICK, programme=[30])
        self.both([90, 1020], QUICK, programme=[50, 80, 60, 90])
        self.both([40, 0], SLOW, programme=[100])
        # 20 to 120: 25; 45 to 145: 25; 70 to 100: 8; 78 to 20: 15.
        self.both([63, 30], SLOW, programme=[120, 145, 100, 20])

    def test_the_same_again_may_come(self):
        self.both([20, 0], QUICK, programme=[20])
        self.both([50, 0], QUICK, programme=[50, 50, 50])

    def test_the_first_behind_the_present_one(self):
        self.both([50, 0], QUICK, programme=[50])
        self.both([-62], QUICK, programme=[51])
        self.both([70, 10], QUICK, set_to(40), programme=[70])
        self.both([-62], QUICK, set_to(40), programme=[71])
        self.both([-62], QUICK, set_to(50), set_to(80), programme=[49])
        self.both([50, 0], QUICK, set_to(50), set_to(80), programme=[50])

    def test_each_behind_the_one_before(self):
        self.both([80, 10], QUICK, programme=[50, 80])
        self.both([-62], QUICK, programme=[50, 81])
        self.both([-62], QUICK, programme=[50, 80, 49])
        self.both([50, 10], QUICK, programme=[50, 80, 50])
        self.both([-62], QUICK, programme=[50, 81, 60])
        self.both([-62], QUICK, programme=[60, 40])

    def test_from_low_to_high(self):
        self.both([-62], QUICK, programme=[19])
        self.both([-62], QUICK, programme=[30, 19, 30])
        self.both([20, 0], QUICK, programme=[30, 20])
        tight = start(lag=1, most=300, step=30, low=20, high=45)
        self.both([45, 0], tight, programme=[45])
        self.both([-62], tight, programme=[46])
        self.both([-62], tight, programme=[45, 46, 45])
        self.both([-62], tight, programme=[0])

    def test_too_hot_in_no_minute(self):
        self.both([100, 1020], QUICK, programme=[50, 70, 85, 100])
        self.both([-62], QUICK, programme=[50, 70, 85, 101])
        self.both([60, 1030], QUICK, programme=[50, 75, 100, 75, 60])
        self.both([-62], QUICK, programme=[50, 75, 101, 75, 60])

    def test_a_set_point_above_the_most_may_do(self):
        # Towards 200: 65, then 99, then 125: only the third is too hot.
        self.both([-62], SLOW, set_to(100), programme=[200, 200, 200])
        self.both([99, 1010], SLOW, set_to(100), programme=[200, 200])
        self.both([100, 2010], SLOW, set_to(100), programme=[200, 200, 100])

    def test_it_cures_no_further_than_10000(self):
        self.both([90, 10000], QUICK, programme=[50, 80] + [90] * 12)

    def test_a_table_reached_by_nothing(self):
        self.both([80, 0], start(lag=1, step=30, high=100, warms=(101,), rates=(9,)), programme=[50, 80])

    def test_as_long_as_may_be(self):
        self.both([20, 0], QUICK, programme=[20] * 30)
        self.both([-22], QUICK, programme=[20] * 31)
        self.both([-22], QUICK, programme=[20] * 60)

    def test_too_long_is_named_first(self):
        self.both([-22], QUICK, programme=[BIGGEST] * 31)
        self.both([-22], QUICK, programme=[51] + [20] * 59)

    def test_numbers_as_big_as_may_be(self):
        self.both([-62], QUICK, programme=[BIGGEST])
        self.both([-62], QUICK, programme=[20] * 29 + [BIGGEST])
        self.both([-62], QUICK, programme=[BIGGEST, 20])

    def test_the_last_of_30_counts(self):
        self.both([-62], QUICK, programme=[20] * 29 + [51])
        self.both([50, 0], QUICK, programme=[20] * 29 + [50])

    def test_a_refused_one_changes_nothing(self):
        before = (QUICK, set_to(50), pass_by(2), follow(70))
        for programme in ([101], [90, 101], [19], [100, 130, 100], [70] * 31, [40, 9], [BIGGEST]):
            for call in (run, follow):
                with self.subTest(call=call, programme=programme):
                    self.assertLess(last(*before, call(*programme))[0], 0)
                    self.assertEqual(seen_behind(*before, call(*programme)), seen_behind(*before))


class Run(unittest.TestCase):
    def test_an_empty_programme(self):
        self.assertEqual(ask(QUICK, run(), set_to(50), run(), pass_by(1), run(), follow(80), run())[1:],
                         [[20, 0], [20], [20, 0], [50, 0], [50, 0], [80, 10], [80, 10]])

    def test_it_changes_nothing(self):
        for programme in ([], [30], [50, 80, 90], [20] * 30):
            self.assertEqual(seen_behind(QUICK, run(*programme)), seen_behind(QUICK))


class Follow(unittest.TestCase):
    def test_an_empty_programme(self):
        self.assertEqual(last(QUICK, follow()), [-22])
        self.assertEqual(seen_behind(QUICK, set_to(40), follow()), seen_behind(QUICK, set_to(40)))

    def test_it_is_done(self):
        self.assertEqual(ask(QUICK, follow(50, 80, 60), would(0), cured(), set_to(30))[2:], [[60, 20], [0, 20], [60]])

    def test_it_is_the_same_as_set_and_pass(self):
        programme = [60, 160, 200, 100, 90, 20, 90]
        one_by_one = [call for point in programme for call in (set_to(point), pass_by(1))]
        # 20, then 30, 63, 98, 99, 96, 77, 81.
        self.assertEqual(last(SLOW, follow(*programme)), [81, 3030])
        self.assertEqual(last(SLOW, follow(*programme)), last(SLOW, *one_by_one))
        self.assertEqual(seen_behind(SLOW, follow(*programme)), seen_behind(SLOW, *one_by_one))
        self.assertEqual(seen_behind(SLOW, follow(*programme[:3]), follow(*programme[3:])),
                         seen_behind(SLOW, follow(*programme)))

    def test_it_is_the_same_as_run_tells(self):
        for programme in ([30], [50, 80, 60], [50, 75, 100, 75, 60], [20] * 30):
            self.assertEqual(last(QUICK, run(*programme)), last(QUICK, follow(*programme)))


if __name__ == "__main__":
    unittest.main()
