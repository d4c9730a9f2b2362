import contextlib
import io
import unittest

import fanout.services
from fanout.services import answers

from helper import BEGIN, all_of, calls_of, joined, quiet, service, split, step, time

LINK = (1, 2, 9, 1)
# The second net's 1 is given up by 0, and goes on: 0 is over at 3 + 2 * 2 + 1, and quiet at 3 + 2 + 1 + 9.
MIXED = joined([BEGIN, service(3), service(4), service(1000001), step(0, LINK, LINK), step(0), time(0), time(2),
                calls_of(0, 1), calls_of(0, 2), all_of(0), all_of(2), quiet(0), quiet(2),
                step(1, (0, 1, 1, 1)), time(1), calls_of(1, 0), all_of(1), quiet(1),
                BEGIN, time(0), calls_of(0, 0), all_of(0), quiet(0), service(3), service(9),
                step(0, (1, 2, 2, 1)), time(0), calls_of(0, 1), all_of(0), quiet(0)])
MIXED_TOLD = joined([[1, 0], [1, 0], [1, 1], [1, -22], [1, 1], [1, -22], [2, 0, 12], [1, -2],
                     [2, 0, 4], [1, -2], [2, 0, 5], [1, -2], [2, 0, 12], [1, -2],
                     [1, 1], [1, -41], [1, -41], [1, -41], [1, -41],
                     [1, 0], [1, -2], [1, -2], [1, -2], [1, -2], [1, 0], [1, 1],
                     [1, 1], [2, 0, 8], [2, 0, 2], [2, 0, 3], [2, 0, 15]])


def refuse(*given):
    raise AssertionError("what was handed in is changed")


class Guarded(list):
    """A list that tells at once when it is changed, be it for a while."""
    append = clear = extend = insert = pop = remove = reverse = sort = refuse
    __setitem__ = __delitem__ = __iadd__ = __imul__ = refuse


class Interface(unittest.TestCase):
    def test_name(self):
        self.assertIs(fanout.services.answers, answers)

    def test_begin_alone(self):
        self.assertEqual(answers([0]), [1, 0])

    def test_how_calls_and_answers_stand(self):
        told = answers([0, 1, 3, 1, 4, 2, 0, 8, 1, 2, 9, 1, 1, 1, 9, 0, 3, 0])
        self.assertEqual(told, [1, 0, 1, 0, 1, 1, 1, 1, 2, 0, 12])

    def test_how_each_of_the_four_stands(self):
        net = [0, 1, 3, 1, 9, 2, 0, 4, 1, 2, 2, 1]
        for asked, told in (([3, 0], [2, 0, 8]), ([4, 0, 1], [2, 0, 2]), ([5, 0], [2, 0, 3]), ([6, 0], [2, 0, 15])):
            self.assertEqual(answers(net + asked), [1, 0, 1, 0, 1, 1, 1, 1] + told)
            self.assertEqual(answers(net + asked + asked), [1, 0, 1, 0, 1, 1, 1, 1] + told + told)

    def test_s_stands_ahead_of_t(self):
        net = [0, 1, 3, 1, 9, 2, 0, 4, 1, 2, 2, 1]
        self.assertEqual(answers(net + [4, 0, 1, 4, 1, 0]), [1, 0, 1, 0, 1, 1, 1, 1, 2, 0, 2, 2, 0, 0])

    def test_numbers_that_are_calls_too(self):
        # What stands behind a call's number is never taken for a call.
        self.assertEqual(answers([0, 1, 5, 5, 6, 6, 5, 4, 6, 4, 3, 4, 4, 0, 0]),
                         [1, 0, 1, 0, 1, -2, 1, -2, 1, -2, 1, -2, 2, 0, 1])

    def test_the_largest_numbers(self):
        top = 4294967295
        self.assertEqual(answers([0, 1, top, 3, top, 4, top, top, 5, top, 6, top]),
                         [1, 0, 1, -22, 1, -2, 1, -2, 1, -2, 1, -2])

    def test_an_empty_row_and_a_full_one_are_stepped_over(self):
        self.assertEqual(answers([0, 1, 3, 2, 0, 0, 3, 0]), [1, 0, 1, 0, 1, -22, 2, 0, 3])
        self.assertEqual(answers([0, 1, 3, 2, 0, 40] + [0, 1, 0, 3] * 10 + [3, 0]), [1, 0, 1, 0, 1, -22, 2, 0, 3])

    def test_a_refused_row_is_stepped_over(self):
        self.assertEqual(answers([0, 1, 3, 2, 7, 4, 0, 1, 0, 3, 3, 0]), [1, 0, 1, 0, 1, -2, 2, 0, 3])

    def test_a_refusal_stands_alone(self):
        self.assertEqual(answers(MIXED), MIXED_TOLD)

    def test_kinds(self):
        told = answers(MIXED)
        self.assertIs(type(told), list)
        self.assertEqual({type(number) for number in told}, {int})

    def test_what_is_handed_in_is_not_changed(self):
        calls = list(MIXED)
        answers(calls)
        self.assertEqual(calls, MIXED)

    def test_not_for_a_while_either(self):
        self.assertEqual(answers(Guarded(MIXED)), MIXED_TOLD)

    def test_what_is_given_back_is_new(self):
        first = answers(MIXED)
        first.clear()
        self.assertEqual(answers(MIXED), MIXED_TOLD)

    def test_the_same_twice(self):
        calls = list(MIXED)
        self.assertEqual(answers(calls), MIXED_TOLD)
        self.assertEqual(answers(calls), MIXED_TOLD)

    def test_nothing_is_kept(self):
        answers(joined([BEGIN, service(1), step(0, (0, 1, 1, 1))]))
        self.assertEqual(answers([0, 3, 0]), [1, 0, 1, -2])
        answers([0] + [1, 5] * 16)
        self.assertEqual(answers([0, 1, 5, 3, 0]), [1, 0, 1, 0, 2, 0, 5])
        answers(MIXED)
        self.assertEqual(answers([0, 4, 0, 0, 5, 0, 6, 0]), [1, 0, 1, -2, 1, -2, 1, -2])
        self.assertEqual(answers([0, 1, 5, 4, 0, 0, 5, 0, 6, 0]), [1, 0, 1, 0, 2, 0, 1, 2, 0, 1, 2, 0, 5])

    def test_nothing_is_printed(self):
        out, err = io.StringIO(), io.StringIO()
        with contextlib.redirect_stdout(out), contextlib.redirect_stderr(err):
            answers(MIXED)
        self.assertEqual((out.getvalue(), err.getvalue()), ("", ""))

    def test_three_hundred_calls(self):
        calls = [BEGIN, service(1)] + [step(0, *[(0, 6, 1, 1)] * 10)] * 297 + [time(0)]
        self.assertEqual(split(answers(joined(calls))), [[0], [0]] + [[-22]] * 297 + [[0, 1]])

    def test_three_hundred_calls_of_time(self):
        calls = [BEGIN] + [service(1)] * 16
        calls += [step(s, *[(s + 1, 5, 9, 1)] * 4) for s in range(15)]
        calls += [time(0)] * (300 - len(calls))
        self.assertEqual(split(answers(joined(calls)))[32:], [[0, 50]] * 268)

    def test_three_hundred_calls_of_every_kind(self):
        calls = [BEGIN] + [service(1)] * 16
        # Each calls the one behind it 32 times, and gives it up; the last one alone has no steps.
        calls += [step(s, *[(s + 1, 2, 0, 1)] * 4) for s in range(15) for number in range(4)]
        one_round = [time(0), calls_of(0, 12), calls_of(0, 13), all_of(0), all_of(4), quiet(0), step(0, LINK),
                     step(0, *[LINK] * 10), service(1)]
        calls += one_round * 24 + [BEGIN, service(7), quiet(0), time(0), all_of(0), calls_of(0, 0), quiet(1)]
        self.assertEqual(len(calls), 300)
        # A step lasts 1; its last try begins at 1, so each of fifteen is 1 + 3 + 1 ahead of the one behind it.
        of_round = [[0, 5], [0, 2 ** 60], [-75], [-75], [0, sum(32 ** k for k in range(12))], [0, 76], [-28],
                    [-22], [-28]]
        told = split(answers(joined(calls)))
        self.assertEqual(told[:77], [[0]] + [[n] for n in range(16)] + [[1], [2], [3], [4]] * 15)
        self.assertEqual(told[77:293], of_round * 24)
        self.assertEqual(told[293:], [[0], [0], [0, 7], [0, 7], [0, 1], [0, 1], [-2]])

    def test_the_longest_list_there_is(self):
        # Three hundred calls, and none has more numbers than a step with ten links.
        calls = joined([BEGIN] + [step(0, *[LINK] * 10)] * 299)
        self.assertEqual(len(calls), 12858)
        self.assertEqual(answers(calls), [1, 0] + [1, -2] * 299)


if __name__ == "__main__":
    unittest.main()
