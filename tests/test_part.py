import unittest

from tests.lines import BIGGEST, ask, cooled, cured, follow, hottest, last, left, log_behind, new_part, next_points
from tests.lines import pass_by, rate, run, safe, seen_behind, set_to, start, state, would

BEFORE = (start(lag=4, most=90, step=100, low=20, high=120, warms=(40,), rates=(100,)), set_to(60), pass_by(5))


class NewPart(unittest.TestCase):
    def test_it_answers_how_far_the_old_one_was_cured(self):
        # 20, then 30, 38, 44, 48, 51: it cures in the last three. And 70, then 67, 65.
        self.assertEqual(ask(*BEFORE, new_part(70), new_part(70), pass_by(2), new_part(30), new_part(9))[3:],
                         [[300], [0], [65, 200], [200], [0]])

    def test_a_cured_one(self):
        told = start(warms=(0,), rates=(10000,))
        self.assertEqual(ask(told, pass_by(1), new_part(40), cured(), left(), pass_by(2), new_part(0))[2:],
                         [[10000], [0, 0], [1], [31, 10000], [10000]])

    def test_it_is_of_that_warmth_and_not_cured_at_all(self):
        self.assertEqual(ask(*BEFORE, new_part(70), would(0), cured(), hottest(0))[4:], [[70, 0], [0, 0], [70]])

    def test_the_set_point_the_minutes_and_the_log_stay(self):
        self.assertEqual(ask(*BEFORE, state(), new_part(70), state())[3:], [[5, 51, 60, 300, 5], [300], [5, 70, 60, 0, 5]])
        self.assertEqual(log_behind(*BEFORE, new_part(70)), [51, 48, 44, 38, 30])
        self.assertEqual(last(*BEFORE, new_part(70), set_to(61)), [60])

    def test_it_goes_on_from_there(self):
        self.assertEqual(ask(*BEFORE, new_part(80), pass_by(1), pass_by(1))[4:], [[75, 100], [71, 200]])
        self.assertEqual(ask(*BEFORE, new_part(80), run(100, 20), follow(100, 20))[4:], [[68, 200], [68, 200]])

    def test_bounds(self):
        self.assertEqual(ask(*BEFORE, new_part(91), new_part(300), new_part(301), new_part(BIGGEST))[3:], [[-22]] * 4)
        self.assertEqual(ask(*BEFORE, new_part(90), would(0))[3:], [[300], [90, 0]])
        self.assertEqual(ask(*BEFORE, new_part(0), would(0), would(1))[3:], [[300], [0, 0], [15, 0]])
        self.assertEqual(ask(start(most=300), new_part(300), new_part(301))[1:], [[0], [-22]])

    def test_it_may_be_colder_than_low_and_warmer_than_high(self):
        told = start(lag=1, most=300, low=50, high=60, warms=(0, 61), rates=(1, 1000))
        self.assertEqual(ask(told, new_part(0), pass_by(1), new_part(300), would(1), cooled(50), hottest(9))[1:],
                         [[0], [50, 1], [1], [50, 1], [1], [300]])

    def test_a_part_that_is_as_warm_as_may_be(self):
        told = (start(lag=2, most=90, step=100, low=20, high=120), new_part(90))
        self.assertEqual(ask(*told, safe(300), pass_by(1))[2:], [[1], [55, 0]])
        self.assertEqual(ask(*told, set_to(90), safe(300), pass_by(300))[3:], [[1], [90, 3000]])
        self.assertEqual(ask(*told, set_to(91), safe(1), pass_by(1), follow(91), follow(90))[3:],
                         [[0], [-62], [-62], [90, 10]])

    def test_a_refused_one_changes_nothing(self):
        for warmth in (91, 301, BIGGEST):
            self.assertEqual(seen_behind(*BEFORE, new_part(warmth)), seen_behind(*BEFORE))

    def test_where_the_set_point_may_go_stays(self):
        told = (start(step=15, low=20), set_to(35))
        self.assertEqual(ask(*told, new_part(0), next_points(), set_to(51), set_to(50))[3:], [[3, 20, 35, 50], [-13], [35]])


class Rate(unittest.TestCase):
    told = start(most=100, low=10, high=120, warms=(10, 20, 250), rates=(7, 9000, 30))

    def test_the_last_row_that_is_reached(self):
        for warmth, due in ((0, 0), (9, 0), (10, 7), (19, 7), (20, 9000), (21, 9000), (249, 9000), (250, 30), (300, 30)):
            with self.subTest(warmth):
                self.assertEqual(last(self.told, rate(warmth)), [due])

    def test_bounds(self):
        self.assertEqual(ask(self.told, rate(300), rate(301), rate(BIGGEST))[1:], [[30], [-22], [-22]])

    def test_a_row_of_300_and_a_row_of_0(self):
        self.assertEqual(ask(start(warms=(0, 300), rates=(10000, 0)), rate(0), rate(299), rate(300))[1:],
                         [[10000], [10000], [0]])

    def test_8_rows(self):
        told = start(warms=tuple(range(10, 90, 10)), rates=tuple(range(1, 9)))
        self.assertEqual(ask(told, *[rate(warmth) for warmth in range(5, 100, 10)])[1:],
                         [[row] for row in (0, 1, 2, 3, 4, 5, 6, 7, 8, 8)])

    def test_it_is_what_a_minute_cures(self):
        told = start(lag=1, most=300, low=0, high=0, warms=(10, 20, 250), rates=(7, 9000, 30))
        for warmth in (0, 9, 10, 20, 249, 250, 300):
            quick = start(lag=1, most=300, low=warmth, high=warmth, warms=(10, 20, 250), rates=(7, 9000, 30))
            self.assertEqual(last(told, rate(warmth))[0], last(quick, pass_by(1))[1])

    def test_it_changes_nothing(self):
        for warmth in (0, 20, 300, 301):
            self.assertEqual(seen_behind(*BEFORE, rate(warmth)), seen_behind(*BEFORE))

    def test_it_goes_by_the_last_start(self):
        self.assertEqual(ask(self.told, start(warms=(5,), rates=(6,)), rate(20), start(lag=0, warms=(5,), rates=(8,)),
                             rate(20))[2::2], [[6], [6]])


if __name__ == "__main__":
    unittest.main()
