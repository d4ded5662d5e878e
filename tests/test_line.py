import unittest

from curedsteps.oven import answers
from tests.lines import BIGGEST, ask, cooled, cured, follow, hottest, last, left, pass_by, run, set_to, start, would

# Every call but start, with its numbers, the calls of later points among them.
OTHERS = (set_to(20), pass_by(1), would(1), hottest(1), left(), cooled(1), cured(), run(20), follow(20),
          [10, 1], [11, 1], [12, 1], [13], [14, 1], [15, 1], [16, 1], [17, 1], [18])
BUILT = OTHERS[:9]


class Guarded(list):
    """A list that fails at the first change, even one that is taken back again."""

    def fail(self, *told, **named):
        raise AssertionError("what is handed in is changed")

    append = clear = extend = insert = pop = remove = reverse = sort = fail
    __setitem__ = __delitem__ = __iadd__ = __imul__ = fail


class BeforeAStart(unittest.TestCase):
    def test_every_other_call(self):
        for call in OTHERS:
            with self.subTest(call):
                self.assertEqual(ask(call), [[-11]])
        self.assertEqual(ask(*OTHERS), [[-11]] * len(OTHERS))

    def test_it_is_named_ahead_of_all_else(self):
        for call in (set_to(BIGGEST), pass_by(0), pass_by(BIGGEST), would(BIGGEST), hottest(301), cooled(301),
                     run(*[BIGGEST] * 60), follow(), follow(*[1] * 60)):
            with self.subTest(call):
                self.assertEqual(ask(call), [[-11]])

    def test_behind_a_refused_start(self):
        for call in OTHERS:
            with self.subTest(call):
                self.assertEqual(ask(start(lag=0), call, start(high=301), call), [[-22], [-11], [-22], [-11]])

    def test_a_start_ends_it(self):
        for call in BUILT:
            with self.subTest(call):
                told = ask(call, start(warms=(0,), rates=(10000,)), call)
                self.assertEqual(told[:2], [[-11], [0]])
                self.assertNotEqual(told[2], [-11])


class HowAnswersAreGivenBack(unittest.TestCase):
    def test_how_many_then_these(self):
        self.assertEqual(answers(start() + set_to(100) + pass_by(3) + cured() + left() + cooled(67) + pass_by(0)),
                         [1, 0, 1, 20, 2, 67, 10, 2, 0, 10, 1, 108, 1, 0, 1, -22])

    def test_the_calls_as_the_interface_writes_them(self):
        calls = [0, 1, 100, 50, 20, 90, 2, 30, 60, 2, 7, 900, 1, 60, 2, 2, 3, 0, 4, 9, 5, 6, 20, 7, 8, 2, 70, 20, 9, 1, 30]
        self.assertEqual(answers(calls), [1, 0, 1, 20, 2, 60, 1800, 2, 60, 1800, 1, 60, 1, 10, 1, -33, 2, 0, 1800,
                                          2, 20, 2700, 2, 30, 1807])

    def test_each_call_answers_as_many_as_told(self):
        started = [start()]
        for call, length in ((set_to(20), 1), (pass_by(1), 2), (would(1), 2), (hottest(1), 1), (left(), 1),
                             (cooled(20), 1), (cured(), 2), (run(20), 2), (follow(20), 2), (start(), 1)):
            with self.subTest(call):
                self.assertEqual(len(last(*started, call)), length)

    def test_whole_numbers_alone(self):
        told = answers(start(warms=(0,), rates=(10000,)) + cured() + pass_by(1) + cured() + left() + pass_by(0))
        self.assertIs(type(told), list)
        self.assertEqual({type(number) for number in told}, {int})

    def test_lists_of_60_and_of_0_are_read_to_their_end(self):
        long = list(range(60))
        told = ask(start(warms=long, rates=long), start(warms=(), rates=long), start(warms=long, rates=()),
                   start(warms=(), rates=()), start(), run(*long), follow(*long), run(), follow(), cured())
        self.assertEqual(told, [[-22], [-22], [-22], [-22], [0], [-22], [-22], [20, 0], [-22], [0, 0]])

    def test_numbers_as_big_as_may_be(self):
        big = [BIGGEST] * 60
        told = ask(start(BIGGEST, BIGGEST, BIGGEST, BIGGEST, BIGGEST, big, big), start(), set_to(BIGGEST),
                   pass_by(BIGGEST), would(BIGGEST), hottest(BIGGEST), cooled(BIGGEST), run(*big), follow(*big), cured())
        self.assertEqual(told, [[-22], [0]] + [[-22]] * 7 + [[0, 0]])

    def test_200_calls(self):
        self.assertEqual(ask(start(warms=(0,), rates=(1,)), *[pass_by(1)] * 199)[-1], [20, 199])


class HandedIn(unittest.TestCase):
    line = (start() + set_to(100) + run(100, 90) + follow(100, 90) + pass_by(3) + would(9) + hottest(9) + left() +
            cooled(30) + cured() + follow() + start(lag=0) + start(low=30))

    def test_it_stays_as_it_was(self):
        calls = list(self.line)
        answers(calls)
        self.assertEqual(calls, self.line)

    def test_it_is_not_changed_for_a_while_either(self):
        self.assertEqual(answers(Guarded(self.line)), answers(list(self.line)))

    def test_nothing_is_kept_from_one_time_to_the_next(self):
        first = answers(list(self.line))
        self.assertEqual(answers(cured()), [1, -11])
        self.assertEqual(answers(list(self.line)), first)

    def test_what_is_given_back_is_new(self):
        first = answers(start())
        first.append(7)
        self.assertEqual(answers(start()), [1, 0])


class NotBuilt(unittest.TestCase):
    def test_calls_of_later_points_are_not_answered_by_a_guess(self):
        for call in OTHERS[9:]:
            with self.subTest(call):
                self.assertRaises(NotImplementedError, ask, start(), call)


if __name__ == "__main__":
    unittest.main()
