import unittest

from helper import ask, last, service, step, time

MILLION = 1000000


class Refused(unittest.TestCase):
    def test_no_such_service(self):
        self.assertEqual(last(time(0)), [-2])
        for s in (2, 15, 16, 4294967295):
            self.assertEqual(last(service(1), service(1), time(s)), [-2], s)

    def test_no_such_service_where_there_is_a_ring(self):
        self.assertEqual(last(service(1), step(0, (0, 1, 1, 1)), time(1)), [-2])

    def test_one_that_calls_itself(self):
        self.assertEqual(last(service(1), step(0, (0, 1, 0, 0)), time(0)), [-41])

    def test_one_that_calls_itself_in_its_last_link(self):
        told = last(service(1), service(1), step(0, (1, 1, 1, 1)),
                    step(0, (1, 1, 1, 1), (1, 1, 1, 1), (1, 1, 1, 1), (0, 1, 1, 1)), time(0))
        self.assertEqual(told, [-41])

    def test_a_ring_of_two(self):
        calls = (service(1), service(1), step(0, (1, 1, 5, 0)), step(1, (0, 1, 5, 0)))
        self.assertEqual(ask(*calls, time(0), time(1))[4:], [[-41], [-41]])

    def test_a_ring_reached_by_several(self):
        # 0 calls 1, 1 calls 2, 2 calls 3 and 4, 4 calls 2.
        calls = [service(1)] * 5 + [step(0, (1, 1, 9, 0)), step(1, (2, 1, 9, 0)), step(2, (3, 1, 9, 0)),
                                    step(2, (4, 1, 9, 0)), step(4, (2, 1, 9, 0))]
        told = ask(*calls, *[time(s) for s in range(5)])[10:]
        self.assertEqual(told, [[-41], [-41], [-41], [0, 1], [-41]])

    def test_a_ring_of_all_sixteen(self):
        calls = [service(1)] * 16 + [step(s, ((s + 1) % 16, 1, 9, 0)) for s in range(16)]
        self.assertEqual(ask(*calls, *[time(s) for s in range(16)])[32:], [[-41]] * 16)

    def test_a_ring_that_is_not_reached(self):
        # The ring of 1 and 2 calls 0 and is called by 3; 4 calls 0 alone.
        calls = [service(2)] * 5 + [step(1, (2, 1, 9, 0)), step(2, (1, 1, 9, 0), (0, 1, 9, 0)),
                                    step(3, (0, 1, 9, 0)), step(3, (1, 1, 9, 0)), step(4, (0, 1, 9, 0))]
        told = ask(*calls, *[time(s) for s in range(5)])[10:]
        self.assertEqual(told, [[0, 2], [-41], [-41], [-41], [0, 4]])

    def test_a_ring_closed_later(self):
        told = ask(service(1), service(2), step(0, (1, 1, 9, 0)), time(0), time(1),
                   step(1, (0, 1, 9, 0)), time(0), time(1))
        self.assertEqual(told[3:], [[0, 3], [0, 2], [1], [-41], [-41]])

    def test_two_ways_to_one_service_are_no_ring(self):
        # 0 calls 1 and 2, and both call 3: 3 lasts 4, 1 and 2 last 6, so 0 lasts 8.
        calls = [service(2)] * 3 + [service(4), step(0, (1, 1, 9, 0), (2, 1, 9, 0)),
                                    step(1, (3, 1, 9, 0)), step(2, (3, 1, 9, 0))]
        self.assertEqual(last(*calls, time(0)), [0, 8])

    def test_changes_nothing(self):
        told = ask(service(1), step(0, (0, 1, 1, 1)), time(0), time(1), step(0, (0, 1, 1, 1)), service(6), time(1))
        self.assertEqual(told[2:], [[-41], [-2], [2], [1], [0, 6]])


class Told(unittest.TestCase):
    def one_link(self, work, called_work, tries, patience, pause):
        return last(service(work), service(called_work), step(0, (1, tries, patience, pause)), time(0))

    def test_no_steps(self):
        for work in (0, 1, 17, MILLION):
            self.assertEqual(last(service(work), time(0)), [0, work])

    def test_one_try_has_no_pause(self):
        self.assertEqual(self.one_link(3, 4, 1, 10, 100), [0, 7])

    def test_two_tries_have_one_pause(self):
        # 3 + 4 + 100 + 4
        self.assertEqual(self.one_link(3, 4, 2, 10, 100), [0, 111])

    def test_five_tries_have_four_pauses(self):
        # 3 + 5 * 4 + 4 * 7
        self.assertEqual(self.one_link(3, 4, 5, 10, 7), [0, 51])

    def test_a_patience_of_0(self):
        self.assertEqual(self.one_link(3, 4, 1, 0, 9), [0, 3])
        self.assertEqual(self.one_link(3, 4, 3, 0, 9), [0, 21])
        self.assertEqual(self.one_link(3, 4, 5, 0, 0), [0, 3])

    def test_a_patience_just_as_long_as_the_call_and_beside_it(self):
        self.assertEqual(self.one_link(3, 4, 2, 3, 1), [0, 10])
        self.assertEqual(self.one_link(3, 4, 2, 4, 1), [0, 12])
        self.assertEqual(self.one_link(3, 4, 2, 5, 1), [0, 12])

    def test_patience_cuts_each_try_and_not_the_link(self):
        # 0 + 3 * 6, longer than the patience
        self.assertEqual(self.one_link(0, 50, 3, 6, 0), [0, 18])

    def test_a_called_service_without_work(self):
        self.assertEqual(self.one_link(0, 0, 5, MILLION, 0), [0, 0])
        self.assertEqual(self.one_link(0, 0, 5, MILLION, 2), [0, 8])

    def test_a_pause_longer_than_all_else(self):
        self.assertEqual(self.one_link(1, 1, 2, 1, MILLION), [0, 1000003])
        # The other link lasts 30, the one with the pauses 2 * 1 + 90.
        told = last(service(5), service(30), service(1),
                    step(0, (1, 1, 99, 0), (2, 2, 99, 90)), time(0))
        self.assertEqual(told, [0, 97])

    def test_a_step_lasts_as_long_as_its_longest_link(self):
        links = [(1, 1, 99, 0), (2, 2, 99, 1), (3, 3, 2, 4)]
        # The links last 10, 2 * 3 + 1 = 7 and 3 * 2 + 2 * 4 = 14.
        for turn in range(3):
            told = last(service(1), service(10), service(3), service(20),
                        step(0, *(links[turn:] + links[:turn])), time(0))
            self.assertEqual(told, [0, 15], turn)

    def test_steps_come_one_behind_another(self):
        # 1 + 10 + (2 * 3 + 1) + 10 + max(3, 4)
        told = last(service(1), service(10), service(3), step(0, (1, 1, 99, 0)), step(0, (2, 2, 99, 1)),
                    step(0, (1, 1, 99, 0), (2, 1, 99, 0)), step(0, (2, 1, 99, 0), (1, 1, 4, 0)), time(0))
        self.assertEqual(told, [0, 32])

    def test_one_that_calls_the_same_twice_in_a_step(self):
        told = ask(service(1), service(10), step(0, (1, 1, 99, 0), (1, 1, 99, 0)), time(0),
                   step(0, (1, 1, 99, 0), (1, 2, 6, 3)), time(0))
        # 1 + 10, and then max(10, 2 * 6 + 3) more
        self.assertEqual(told[2:], [[1], [0, 11], [2], [0, 26]])

    def test_a_service_called_by_several(self):
        # 3 lasts 10. 1 waits 4 for it, twice: 2 + 8 + 1. 2 waits it out: 3 + 10. 0: 1 + max(11, 13) + 10.
        calls = (service(1), service(2), service(3), service(10), step(1, (3, 2, 4, 1)), step(2, (3, 1, 10, 0)),
                 step(0, (1, 1, 99, 0), (2, 1, 99, 0)), step(0, (3, 1, 99, 0)))
        self.assertEqual(ask(*calls, *[time(s) for s in range(4)])[8:], [[0, 24], [0, 11], [0, 13], [0, 10]])

    def test_sixteen_one_behind_another(self):
        calls = [service(s) for s in range(16)] + [step(s, (s + 1, 1, MILLION, 0)) for s in range(15)]
        told = ask(*calls, *[time(s) for s in range(16)])[31:]
        self.assertEqual(told, [[0, sum(range(s, 16))] for s in range(16)])

    def test_sixteen_one_behind_another_called_downwards(self):
        calls = [service(s) for s in range(16)] + [step(s, (s - 1, 1, MILLION, 0)) for s in range(1, 16)]
        told = ask(*calls, *[time(s) for s in range(16)])[31:]
        self.assertEqual(told, [[0, sum(range(s + 1))] for s in range(16)])

    def test_sixteen_one_behind_another_with_five_tries(self):
        # Each lasts 1 + 5 * the one below, until that's above the patience.
        calls = [service(1)] * 16 + [step(s, (s + 1, 5, MILLION, 0)) for s in range(15)]
        told = ask(*calls, *[time(s) for s in range(16)])[31:]
        grown = [1, 6, 31, 156, 781, 3906, 19531, 97656, 488281, 2441406]
        self.assertEqual(told[::-1], [[0, number] for number in grown + [5000001] * 6])

    def test_the_longest_there_is(self):
        link = (1, 5, MILLION, MILLION)
        # 1 + 4 * (5 + 4) millions
        told = last(service(MILLION), service(MILLION), *[step(0, link, link, link, link)] * 4, time(0))
        self.assertEqual(told, [0, 37 * MILLION])

    def test_a_later_step_of_the_called_counts(self):
        told = ask(service(1), service(2), service(3), step(0, (1, 1, 99, 0)), time(0),
                   step(1, (2, 1, 99, 0)), time(0))
        self.assertEqual(told[3:], [[1], [0, 3], [1], [0, 6]])

    def test_asking_changes_nothing(self):
        calls = (service(1), service(2), step(0, (1, 2, 99, 3)))
        self.assertEqual(ask(*calls, time(0), time(0), service(1), step(0, (1, 1, 99, 0)), time(0))[3:],
                         [[0, 8], [0, 8], [2], [2], [0, 10]])


if __name__ == "__main__":
    unittest.main()
