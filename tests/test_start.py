import unittest

from tests.lines import BIGGEST, ask, cured, follow, last, left, new_part, pass_by, run, seen_behind, set_to, start, state
from tests.lines import would


class StartIsTaken(unittest.TestCase):
    def test_it_answers_0(self):
        self.assertEqual(ask(start()), [[0]])

    def test_the_part_is_as_warm_as_low_and_not_cured(self):
        self.assertEqual(ask(start(low=37), would(0), cured()), [[0], [37, 0], [0, 0]])

    def test_the_set_point_is_low(self):
        self.assertEqual(last(start(low=37), set_to(40)), [37])

    def test_bounds(self):
        for told in (
            {"lag": 1}, {"lag": 50},
            {"most": 300}, {"most": 20},
            {"step": 1}, {"step": 100},
            {"low": 0}, {"low": 200},
            {"high": 300}, {"high": 20},
            {"low": 300, "high": 300, "most": 300},
            {"low": 0, "high": 0, "most": 0},
            {"most": 20, "high": 300},
        ):
            with self.subTest(told):
                self.assertEqual(last(start(**told)), [0])

    def test_tables(self):
        for warms, rates in (
            ((0,), (0,)),
            ((300,), (10000,)),
            ((299, 300), (10000, 0)),
            ((1, 2, 3, 4, 5, 6, 7, 8), (8, 7, 6, 5, 4, 3, 2, 1)),
            ((5, 6), (7, 7)),
        ):
            with self.subTest(warms):
                self.assertEqual(last(start(warms=warms, rates=rates)), [0])


class StartIsRefused(unittest.TestCase):
    def test_bounds(self):
        for told in (
            {"lag": 0}, {"lag": 51}, {"lag": BIGGEST},
            {"most": 301}, {"most": BIGGEST}, {"most": 19}, {"most": 0},
            {"step": 0}, {"step": 101}, {"step": BIGGEST},
            {"low": 201}, {"low": BIGGEST},
            {"low": 100, "high": 99},
            {"low": 100, "most": 99},
            {"high": 301}, {"high": BIGGEST}, {"high": 19}, {"high": 0},
            {"low": 301, "high": 301, "most": 301},
            {"low": 301, "high": 301, "most": 300},
        ):
            with self.subTest(told):
                self.assertEqual(last(start(**told)), [-22])

    def test_tables(self):
        for warms, rates in (
            ((), ()),
            ((), (1,)),
            ((1,), ()),
            ((1, 2), (1,)),
            ((1,), (1, 2)),
            ((301,), (1,)),
            ((1, 301), (1, 1)),
            ((BIGGEST,), (1,)),
            ((1,), (10001,)),
            ((1, 2), (10001, 1)),
            ((1,), (BIGGEST,)),
            ((5, 5), (1, 2)),
            ((6, 5), (1, 2)),
            ((1, 2, 9, 4), (1, 2, 3, 4)),
            (tuple(range(9)), tuple(range(9))),
            (tuple(range(60)), tuple(range(60))),
            (tuple(range(60)), ()),
            ((), tuple(range(60))),
            (tuple(range(8)), tuple(range(9))),
        ):
            with self.subTest(warms=warms, rates=rates):
                self.assertEqual(last(start(warms=warms, rates=rates)), [-22])

    def test_a_refused_start_starts_nothing(self):
        self.assertEqual(ask(start(lag=0), cured(), start(), cured()), [[-22], [-11], [0], [0, 0]])


class StartComesAgain(unittest.TestCase):
    before = (start(), set_to(100), pass_by(20))

    def test_all_is_new(self):
        fresh = start(lag=1, most=90, step=7, low=30, high=120, warms=(30,), rates=(500,))
        self.assertEqual(seen_behind(*self.before, fresh), seen_behind(fresh))
        self.assertEqual(ask(*self.before, fresh, cured(), set_to(38), set_to(37), pass_by(2))[3:],
                         [[0], [0, 0], [-13], [30], [37, 1000]])

    def test_the_same_again(self):
        self.assertEqual(seen_behind(*self.before, start()), seen_behind(start()))

    def test_a_refused_one_changes_nothing(self):
        for refused in (
            start(lag=51), start(most=301), start(step=0), start(low=201), start(high=301),
            start(low=60, most=50), start(warms=(), rates=()), start(warms=(9, 9), rates=(1, 1)),
        ):
            with self.subTest(refused):
                self.assertEqual(ask(*self.before, refused)[-1], [-22])
                self.assertEqual(seen_behind(*self.before, refused), seen_behind(*self.before))


class Minutes(unittest.TestCase):
    def test_they_are_counted_from_each_start_that_is_taken(self):
        calls = (start(), set_to(100), pass_by(3), would(9), left(), run(200, 200), pass_by(301), follow(150, 200), follow(),
                 new_part(30), start(lag=0), start(), pass_by(2))
        counts = [last(*calls[:length], state())[0] for length in range(1, len(calls) + 1)]
        self.assertEqual(counts, [0, 0, 3, 3, 3, 3, 3, 5, 5, 5, 5, 0, 2])


if __name__ == "__main__":
    unittest.main()
