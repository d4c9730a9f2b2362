import contextlib
import io
import unittest

import fanout.services
from fanout.services import answers

from helper import BEGIN, joined, service, split, step, time

LINK = (1, 2, 9, 1)
MIXED = joined([BEGIN, service(3), service(4), service(1000001), step(0, LINK, LINK), step(0), time(0), time(2),
                step(1, (0, 1, 1, 1)), time(1), BEGIN, time(0), service(8), time(0)])
MIXED_TOLD = [1, 0, 1, 0, 1, 1, 1, -22, 1, 1, 1, -22, 2, 0, 12, 1, -2, 1, 1, 1, -41, 1, 0, 1, -2, 1, 0, 2, 0, 8]


def refuse(*given):
    raise AssertionError("what was handed in is changed")


class Guarded(list):
    """A list that tells at once when it is changed, be it for a while."""
    append = clear = extend = insert = pop = remove = reverse = sort = refuse
    __setitem__ = __delitem__ = __iadd__ = __imul__ = refuse


class Interface(unittest.TestCase):
    def test_name(self):
        self.assertIs(fanout.services.answers, answers)

    def test_begin_alone(self):
        self.assertEqual(answers([0]), [1, 0])

    def test_how_calls_and_answers_stand(self):
        told = answers([0, 1, 3, 1, 4, 2, 0, 8, 1, 2, 9, 1, 1, 1, 9, 0, 3, 0])
        self.assertEqual(told, [1, 0, 1, 0, 1, 1, 1, 1, 2, 0, 12])

    def test_an_empty_row_and_a_full_one_are_stepped_over(self):
        self.assertEqual(answers([0, 1, 3, 2, 0, 0, 3, 0]), [1, 0, 1, 0, 1, -22, 2, 0, 3])
        self.assertEqual(answers([0, 1, 3, 2, 0, 40] + [0, 1, 0, 3] * 10 + [3, 0]), [1, 0, 1, 0, 1, -22, 2, 0, 3])

    def test_a_refused_row_is_stepped_over(self):
        self.assertEqual(answers([0, 1, 3, 2, 7, 4, 0, 1, 0, 3, 3, 0]), [1, 0, 1, 0, 1, -2, 2, 0, 3])

    def test_a_refusal_stands_alone(self):
        self.assertEqual(answers(MIXED), MIXED_TOLD)

    def test_kinds(self):
        told = answers(MIXED)
        self.assertIs(type(told), list)
        self.assertEqual({type(number) for number in told}, {int})

    def test_what_is_handed_in_is_not_changed(self):
        calls = list(MIXED)
        answers(calls)
        self.assertEqual(calls, MIXED)

    def test_not_for_a_while_either(self):
        self.assertEqual(answers(Guarded(MIXED)), MIXED_TOLD)

    def test_what_is_given_back_is_new(self):
        first = answers(MIXED)
        first.clear()
        self.assertEqual(answers(MIXED), MIXED_TOLD)

    def test_the_same_twice(self):
        calls = list(MIXED)
        self.assertEqual(answers(calls), answers(calls))

    def test_nothing_is_kept(self):
        answers(joined([BEGIN, service(1), step(0, (0, 1, 1, 1))]))
        self.assertEqual(answers([0, 3, 0]), [1, 0, 1, -2])
        answers([0] + [1, 5] * 16)
        self.assertEqual(answers([0, 1, 5, 3, 0]), [1, 0, 1, 0, 2, 0, 5])

    def test_nothing_is_printed(self):
        out, err = io.StringIO(), io.StringIO()
        with contextlib.redirect_stdout(out), contextlib.redirect_stderr(err):
            answers(MIXED)
        self.assertEqual((out.getvalue(), err.getvalue()), ("", ""))

    def test_three_hundred_calls(self):
        calls = [BEGIN, service(1)] + [step(0, *[(0, 6, 1, 1)] * 10)] * 297 + [time(0)]
        self.assertEqual(split(answers(joined(calls))), [[0], [0]] + [[-22]] * 297 + [[0, 1]])

    def test_three_hundred_calls_of_time(self):
        calls = [BEGIN] + [service(1)] * 16
        calls += [step(s, *[(s + 1, 5, 9, 1)] * 4) for s in range(15)]
        calls += [time(0)] * (300 - len(calls))
        self.assertEqual(split(answers(joined(calls)))[32:], [[0, 50]] * 268)


if __name__ == "__main__":
    unittest.main()
