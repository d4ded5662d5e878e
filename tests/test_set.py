import unittest

from tests.lines import BIGGEST, ask, cured, follow, last, pass_by, seen_behind, set_to, start, would


class SetPoint(unittest.TestCase):
    def test_it_answers_what_it_was(self):
        self.assertEqual(ask(start(), set_to(100), set_to(70), set_to(70), set_to(20))[1:], [[20], [100], [70], [70]])

    def test_it_changes_the_set_point_alone(self):
        self.assertEqual(ask(start(), set_to(100), would(0), would(1), cured())[2:], [[20, 0], [40, 0], [0, 0]])

    def test_from_low_to_high(self):
        small = start(low=50, high=60)
        self.assertEqual(ask(small, set_to(60), set_to(50), set_to(61), set_to(49), set_to(60))[1:],
                         [[50], [60], [-22], [-22], [50]])

    def test_no_further_than_the_step(self):
        for step in (1, 7, 100):
            with self.subTest(step):
                told = start(low=50, high=300, step=step)
                self.assertEqual(ask(told, set_to(50 + step + 1), set_to(50 + step), set_to(50))[1:],
                                 [[-13], [50], [50 + step]])
                self.assertEqual(ask(told, *[set_to(50 + step * turn) for turn in (1, 2)],
                                     set_to(50 + step - 1), set_to(50 + step))[3:], [[-13], [50 + 2 * step]])

    def test_it_may_be_above_the_most(self):
        self.assertEqual(ask(start(most=30), set_to(120))[1], [20])

    def test_out_of_bounds_is_named_first(self):
        told = start(step=1, low=20, high=200)
        for point in (0, 19, 201, 300, BIGGEST):
            with self.subTest(point):
                self.assertEqual(last(told, set_to(21), set_to(22), set_to(point)), [-22])

    def test_it_is_the_set_point_that_counts_not_the_warmth(self):
        told = start(step=10, lag=50)
        self.assertEqual(ask(told, set_to(30), set_to(40), set_to(31), set_to(20))[3:], [[40], [-13]])

    def test_a_refused_one_changes_nothing(self):
        before = (start(step=40), set_to(60), pass_by(3), follow(90))
        for point, number in ((131, -13), (49, -13), (19, -22), (201, -22), (BIGGEST, -22)):
            with self.subTest(point):
                self.assertEqual(last(*before, set_to(point)), [number])
                self.assertEqual(seen_behind(*before, set_to(point)), seen_behind(*before))


if __name__ == "__main__":
    unittest.main()
