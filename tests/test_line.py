import unittest

from curedsteps.oven import answers
from tests.lines import BIGGEST, ask, cooled, cured, farthest, follow, hottest, last, left, log, need, new_part
from tests.lines import next_points, pass_by, rate, run, safe, seen_behind, set_to, soonest, start, state, would

# Every call but start.
OTHERS = (set_to(20), pass_by(1), would(1), hottest(1), left(), cooled(1), cured(), run(20), follow(20), soonest(1),
          farthest(1), rate(1), next_points(), new_part(1), log(1), safe(1), need(1), state())


class Guarded(list):
    """A list that fails at the first change, even one that is taken back again."""

    def fail(self, *told, **named):
        raise AssertionError("what is handed in is changed")

    append = clear = extend = insert = pop = remove = reverse = sort = fail
    __setitem__ = __delitem__ = __iadd__ = __imul__ = fail


class BeforeAStart(unittest.TestCase):
    def test_every_other_call(self):
        for call in OTHERS:
            with self.subTest(call):
                self.assertEqual(ask(call), [[-11]])
        self.assertEqual(ask(*OTHERS), [[-11]] * len(OTHERS))

    def test_it_is_named_ahead_of_all_else(self):
        for call in (set_to(BIGGEST), pass_by(0), pass_by(BIGGEST), would(BIGGEST), hottest(301), cooled(301),
                     run(*[BIGGEST] * 60), follow(), follow(*[1] * 60), soonest(7), soonest(0), soonest(BIGGEST), farthest(7),
                     farthest(BIGGEST), rate(301), rate(BIGGEST), new_part(301), new_part(BIGGEST), log(0), log(100),
                     log(BIGGEST), safe(301), safe(BIGGEST), need(0), need(61), need(BIGGEST)):
            with self.subTest(call):
                self.assertEqual(ask(call), [[-11]])

    def test_behind_a_refused_start(self):
        for call in OTHERS:
            with self.subTest(call):
                self.assertEqual(ask(start(lag=0), call, start(high=301), call), [[-22], [-11], [-22], [-11]])

    def test_a_start_ends_it(self):
        for call in OTHERS:
            with self.subTest(call):
                told = ask(call, start(warms=(0,), rates=(10000,)), call)
                self.assertEqual(told[:2], [[-11], [0]])
                self.assertNotEqual(told[2], [-11])


class HowAnswersAreGivenBack(unittest.TestCase):
    def test_how_many_then_these(self):
        self.assertEqual(answers(start() + set_to(100) + pass_by(3) + cured() + left() + cooled(67) + pass_by(0)),
                         [1, 0, 1, 20, 2, 67, 10, 2, 0, 10, 1, 108, 1, 0, 1, -22])

    def test_the_calls_as_the_interface_writes_them(self):
        calls = [0, 1, 100, 50, 20, 90, 2, 30, 60, 2, 7, 900, 1, 60, 2, 2, 3, 0, 4, 9, 5, 6, 20, 7, 8, 2, 70, 20, 9, 1, 30]
        self.assertEqual(answers(calls), [1, 0, 1, 20, 2, 60, 1800, 2, 60, 1800, 1, 60, 1, 10, 1, -33, 2, 0, 1800,
                                          2, 20, 2700, 2, 30, 1807])

    def test_the_later_calls_as_the_interface_writes_them(self):
        calls = [0, 1, 100, 50, 20, 90, 2, 30, 60, 2, 700, 6000, 10, 2, 11, 1, 12, 59, 13, 9, 1, 60, 14, 35, 15, 0, 16, 300,
                 17, 2, 18]
        self.assertEqual(answers(calls), [1, 0, 3, 2, 70, 70, 2, 6000, 70, 1, 700, 3, 2, 20, 70, 2, 60, 6000, 1, 6000, 1, 60,
                                          1, 1, 1, 60, 5, 1, 35, 60, 0, 1])

    def test_each_call_answers_as_many_as_told(self):
        started = [start(warms=(0,), rates=(5000,)), pass_by(1)]
        for call, length in ((set_to(20), 1), (pass_by(1), 2), (would(1), 2), (hottest(1), 1), (left(), 1),
                             (cooled(20), 1), (cured(), 2), (run(20), 2), (follow(20), 2), (start(), 1), (soonest(6), 2),
                             (rate(9), 1), (next_points(), 3), (new_part(9), 1), (log(0), 1), (safe(9), 1), (need(9), 1),
                             (state(), 5), *[(farthest(minutes), 1 + minutes) for minutes in range(7)]):
            with self.subTest(call):
                told = last(*started, call)
                self.assertGreaterEqual(told[0], 0)
                self.assertEqual(len(told), length)

    def test_whole_numbers_alone(self):
        told = answers(start(warms=(0,), rates=(10000,)) + cured() + pass_by(1) + cured() + left() + pass_by(0) + safe(1) +
                       set_to(120) + follow(200) + safe(300) + state() + next_points() + soonest(1) + farthest(2) + log(0) +
                       need(3) + rate(7) + new_part(9))
        self.assertIs(type(told), list)
        self.assertEqual({type(number) for number in told}, {int})

    def test_lists_of_60_and_of_0_are_read_to_their_end(self):
        long = list(range(60))
        told = ask(start(warms=long, rates=long), start(warms=(), rates=long), start(warms=long, rates=()),
                   start(warms=(), rates=()), start(), run(*long), follow(*long), run(), follow(), cured())
        self.assertEqual(told, [[-22], [-22], [-22], [-22], [0], [-22], [-22], [20, 0], [-22], [0, 0]])

    def test_numbers_as_big_as_may_be(self):
        big = [BIGGEST] * 60
        told = ask(start(BIGGEST, BIGGEST, BIGGEST, BIGGEST, BIGGEST, big, big), start(), set_to(BIGGEST),
                   pass_by(BIGGEST), would(BIGGEST), hottest(BIGGEST), cooled(BIGGEST), run(*big), follow(*big),
                   soonest(BIGGEST), farthest(BIGGEST), rate(BIGGEST), new_part(BIGGEST), safe(BIGGEST), need(BIGGEST),
                   log(BIGGEST), cured())
        self.assertEqual(told, [[-22], [0]] + [[-22]] * 13 + [[-6], [0, 0]])

    def test_200_calls(self):
        self.assertEqual(ask(start(warms=(0,), rates=(1,)), *[pass_by(1)] * 199)[-1], [20, 199])

    def test_200_calls_of_all_kinds(self):
        kinds = (start(), *OTHERS)
        line = [kinds[(turn * 7) % 19] for turn in range(200)]
        self.assertEqual({call[0] for call in line}, set(range(19)))
        told = ask(*line)
        # Each call is answered behind the others as it would be behind those that change something alone.
        for length in range(1, 201):
            changing = [call for call in line[:length - 1] if call[0] in (0, 1, 2, 9, 14)]
            self.assertEqual(told[length - 1], last(*changing, line[length - 1]))


class RefusedOrLooking(unittest.TestCase):
    def test_nothing_is_changed(self):
        told = start(lag=3, most=110, step=40, low=20, high=160, warms=(40, 70), rates=(100, 2500))
        lines = ((told,), (told, set_to(60), pass_by(4)), (told, follow(60, 100, 120), new_part(110), set_to(160)),
                 (told, *[pass_by(300), follow(60, 20)] * 2), (told, set_to(60), set_to(100), pass_by(9)))
        looks = (would(3), hottest(3), left(), cooled(50), cured(), run(60), soonest(6), soonest(1), farthest(6), rate(70),
                 next_points(), log(0), log(99), safe(9), need(30), state())
        refused = (start(lag=51), set_to(161), set_to(19), pass_by(0), pass_by(301), would(301), hottest(301), cooled(301),
                   run(*[20] * 31), follow(), follow(*[20] * 31), follow(161), soonest(7), farthest(7), rate(301),
                   new_part(111), log(100), safe(301), need(61))
        for line in lines:
            due = seen_behind(*line)
            for call in refused:
                self.assertLess(last(*line, call)[0], 0)
            for call in looks + refused:
                with self.subTest(line=line, call=call):
                    self.assertEqual(seen_behind(*line, call), due)
            self.assertEqual(seen_behind(*line, *looks, *refused), due)


class HandedIn(unittest.TestCase):
    line = (start() + set_to(100) + run(100, 90) + follow(100, 90) + pass_by(3) + would(9) + hottest(9) + left() +
            cooled(30) + cured() + follow() + start(lag=0) + soonest(6) + farthest(6) + rate(60) + next_points() +
            new_part(90) + log(1) + safe(300) + need(60) + state() + start(low=30) + pass_by(1) + state() + log(0))

    def test_it_stays_as_it_was(self):
        calls = list(self.line)
        answers(calls)
        self.assertEqual(calls, self.line)

    def test_it_is_not_changed_for_a_while_either(self):
        self.assertEqual(answers(Guarded(self.line)), answers(list(self.line)))

    def test_nothing_is_kept_from_one_time_to_the_next(self):
        first = answers(list(self.line))
        self.assertEqual(answers(cured()), [1, -11])
        self.assertEqual(answers(list(self.line)), first)

    def test_what_is_given_back_is_new(self):
        first = answers(start())
        first.append(7)
        self.assertEqual(answers(start()), [1, 0])


if __name__ == "__main__":
    unittest.main()
