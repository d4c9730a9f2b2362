"""Numbers at the edge of what may be told, 2 ** 62, of calls and all."""

import unittest

from helper import all_of, asked_behind, calls_of, quiet, service, step, time

EDGE = 2 ** 62
BASE = 32
LAST = 15


def links_to(whom, many):
    """Links whose tries are this many together."""
    tries = [5] * (many // 5) + [many % 5] * (many % 5 > 0)
    return [(whom, each, 9, 0) for each in tries]


def steps_of(s, links):
    return [step(s, *links[k:k + 4]) for k in range(0, len(links), 4)]


def chain(digits):
    """Sixteen services. 0, 1, 2 .. call the last one as often as their digit tells, and the next of them 32 times."""
    calls = [service(1)] * 16
    for s, digit in enumerate(digits):
        behind = links_to(s + 1, BASE) if s + 1 < len(digits) else []
        calls += steps_of(s, behind + links_to(LAST, digit))
    return calls


def net_with_calls(number):
    """A call of 0 becomes this many calls of the last one."""
    digits = []
    while number:
        digits.append(number % BASE)
        number //= BASE
    return chain(digits)


def net_with_all(number):
    """A call of 0 becomes this many calls of all: each service on the way counts for one itself."""
    digits = []
    while number:
        digit = (number - 1) % BASE
        digits.append(digit)
        number = (number - 1 - digit) // BASE
    return chain(digits)


class SmallOnes(unittest.TestCase):
    def test_the_nets_are_as_they_say(self):
        for number in (1, 2, 31, 32, 33, 1023, 1024, 1025, 987654321):
            self.assertEqual(asked_behind(net_with_calls(number), [calls_of(0, LAST)]), [[0, number]])
            self.assertEqual(asked_behind(net_with_all(number), [all_of(0)]), [[0, number]])


class Calls(unittest.TestCase):
    def test_at_the_edge(self):
        for number, told in ((EDGE - 2, [0, EDGE - 2]), (EDGE - 1, [0, EDGE - 1]), (EDGE, [-75]), (EDGE + 1, [-75])):
            self.assertEqual(asked_behind(net_with_calls(number), [calls_of(0, LAST)]), [told], number)

    def test_sixty_four_times_ten_times_four(self):
        # By tries alone: twelve services one behind another, 64 ** 10 * 4 calls of the last.
        calls = [service(0)] * 16
        for s in range(10):
            calls += steps_of(s, links_to(s + 1, 64))
        self.assertEqual(asked_behind(calls + [step(10, (11, 4, 0, 0))], [calls_of(0, 11)]), [[-75]])
        self.assertEqual(asked_behind(calls + [step(10, (11, 3, 0, 0))], [calls_of(0, 11)]), [[0, EDGE // 4 * 3]])

    def test_it_is_the_number_that_would_be_told(self):
        # Of the services on the way there are fewer than of the last.
        told = asked_behind(net_with_calls(EDGE), [calls_of(0, 12), calls_of(0, 0), calls_of(1, LAST), calls_of(0, 14)])
        self.assertEqual(told, [[0, EDGE // 4], [0, 1], [0, EDGE // BASE], [0, 0]])

    def test_no_service_is_named_before(self):
        calls = [service(1)] * 15
        for s in range(14):
            calls += steps_of(s, links_to(s + 1, 80))
        asked = [calls_of(0, 14), calls_of(0, 15), calls_of(15, 14), all_of(0), all_of(15)]
        self.assertEqual(asked_behind(calls, asked), [[-75], [-2], [-2], [-75], [-2]])


class All(unittest.TestCase):
    def test_at_the_edge(self):
        for number, told in ((EDGE - 2, [0, EDGE - 2]), (EDGE - 1, [0, EDGE - 1]), (EDGE, [-75]), (EDGE + 1, [-75])):
            self.assertEqual(asked_behind(net_with_all(number), [all_of(0)]), [told], number)

    def test_each_single_number_is_below(self):
        for number in (EDGE, EDGE + 1):
            net = net_with_all(number)
            single = asked_behind(net, [calls_of(0, t) for t in range(16)])
            self.assertEqual([len(answer) for answer in single], [2] * 16)
            self.assertEqual(sum(told for zero, told in single), number)
            self.assertLess(max(told for zero, told in single), EDGE)
            self.assertEqual(asked_behind(net, [all_of(0)]), [[-75]])

    def test_a_single_number_is_just_below(self):
        self.assertEqual(asked_behind(net_with_calls(EDGE - 1), [calls_of(0, LAST), all_of(0)]),
                         [[0, EDGE - 1], [-75]])


class Rings(unittest.TestCase):
    def test_a_ring_is_named_before(self):
        for net in (net_with_calls(EDGE), net_with_all(EDGE)):
            for s in (0, 12, LAST):
                ring = net + [step(14, (14, 1, 1, 1)), step(LAST, (14, 1, 1, 1))]
                asked = [calls_of(s, LAST), calls_of(s, s), all_of(s)]
                self.assertEqual(asked_behind(ring, asked), [[-41]] * 3, s)

    def test_a_ring_that_is_not_reached(self):
        net = net_with_calls(EDGE) + [step(14, (14, 1, 1, 1)), step(14, (0, 1, 1, 1))]
        self.assertEqual(asked_behind(net, [calls_of(0, LAST), all_of(0), all_of(14), calls_of(14, LAST)]),
                         [[-75], [-75], [-41], [-41]])


class TheMostThereIs(unittest.TestCase):
    def setUp(self):
        self.net = [service(1000000)] * 16
        for s in range(15):
            self.net += [step(s, *[(s + 1, 5, 1000000, 1000000)] * 4)] * 4

    def test_eighty_times_each(self):
        asked = [calls_of(0, t) for t in range(16)] + [all_of(s) for s in range(16)]
        told = [[0, 80 ** t] if 80 ** t < EDGE else [-75] for t in range(16)]
        together = [sum(80 ** t for t in range(16 - s)) for s in range(16)]
        told += [[0, number] if number < EDGE else [-75] for number in together]
        self.assertEqual(asked_behind(self.net, asked), told)

    def test_times_and_quiet_are_told_all_the_same(self):
        # Each of the fifteen begins 1 + 3 * 9 + 8 millions ahead of the last call of the one behind it.
        self.assertEqual(asked_behind(self.net, [time(0), quiet(0)]), [[0, 37000000], [0, (15 * 36 + 1) * 1000000]])

    def test_a_refusal_changes_nothing(self):
        asked = [calls_of(0, 15), all_of(0), time(0), calls_of(0, 9), step(15, (0, 6, 0, 0)), all_of(0), calls_of(0, 9)]
        self.assertEqual(asked_behind(self.net, asked),
                         [[-75], [-75], [0, 37000000], [0, 80 ** 9], [-22], [-75], [0, 80 ** 9]])


if __name__ == "__main__":
    unittest.main()
