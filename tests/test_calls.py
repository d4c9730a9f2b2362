import unittest

from helper import all_of, ask, asked_behind, calls_of, last, quiet, service, step, time

TOP = 4294967295
TWO = (service(3), service(4))
# 0 reaches a ring, 1 and 2 stand in it, 3 neither calls nor is called, 4 is called by 0 alone.
RING = (service(1),) * 5 + (step(0, (1, 1, 9, 0), (4, 1, 9, 0)), step(1, (2, 1, 9, 0)), step(2, (1, 1, 9, 0)))


class Refused(unittest.TestCase):
    def test_no_s(self):
        for s in (2, 3, 15, 16, TOP):
            self.assertEqual(last(*TWO, calls_of(s, 0)), [-2], s)

    def test_no_t(self):
        for t in (2, 3, 15, 16, TOP):
            self.assertEqual(last(*TWO, calls_of(0, t)), [-2], t)

    def test_neither(self):
        self.assertEqual(last(calls_of(0, 0)), [-2])
        self.assertEqual(last(*TWO, calls_of(2, 2)), [-2])
        self.assertEqual(last(*TWO, calls_of(TOP, 16)), [-2])

    def test_no_t_before_a_ring(self):
        self.assertEqual(last(*RING, calls_of(0, 5)), [-2])
        self.assertEqual(last(*RING, calls_of(1, TOP)), [-2])

    def test_no_s_where_t_stands_in_a_ring(self):
        self.assertEqual(last(*RING, calls_of(5, 1)), [-2])

    def test_s_reaches_a_ring_and_t_does_not(self):
        self.assertEqual(asked_behind(RING, [calls_of(0, t) for t in (3, 4)]), [[-41], [-41]])

    def test_s_reaches_a_ring_whatever_t(self):
        for s in (0, 1, 2):
            self.assertEqual(asked_behind(RING, [calls_of(s, t) for t in range(5)]), [[-41]] * 5, s)

    def test_one_that_calls_itself(self):
        calls = TWO + (step(0, (0, 1, 0, 0)),)
        self.assertEqual(asked_behind(calls, [calls_of(0, 0), calls_of(0, 1)]), [[-41], [-41]])

    def test_refusals_change_nothing(self):
        told = asked_behind(RING, [calls_of(0, 3), calls_of(9, 0), calls_of(0, 9), calls_of(3, 3), calls_of(3, 4),
                                   step(0, (4, 1, 9, 0)), service(1), time(4), calls_of(4, 4), calls_of(0, 4)])
        self.assertEqual(told, [[-41], [-2], [-2], [0, 1], [0, 0], [2], [5], [0, 1], [0, 1], [-41]])


class Told(unittest.TestCase):
    def test_t_in_a_ring_that_s_does_not_reach(self):
        self.assertEqual(asked_behind(RING, [calls_of(s, t) for s in (3, 4) for t in (0, 1, 2)]), [[0, 0]] * 6)

    def test_t_calls_itself_and_s_does_not_reach_it(self):
        self.assertEqual(last(*TWO, step(1, (1, 1, 1, 1)), calls_of(0, 1)), [0, 0])

    def test_itself(self):
        self.assertEqual(last(service(0), calls_of(0, 0)), [0, 1])
        self.assertEqual(last(*TWO, step(0, (1, 5, 1, 1)), calls_of(0, 0)), [0, 1])

    def test_one_that_is_not_called(self):
        self.assertEqual(last(*TWO, calls_of(0, 1)), [0, 0])

    def test_who_calls_is_not_called(self):
        self.assertEqual(last(*TWO, step(0, (1, 5, 1, 1)), calls_of(1, 0)), [0, 0])

    def test_one_link_with_one_to_five_tries(self):
        for tries in (1, 2, 3, 4, 5):
            self.assertEqual(last(*TWO, step(0, (1, tries, 9, 1)), calls_of(0, 1)), [0, tries])

    def test_patience_and_pause_take_and_give_nothing(self):
        for patience in (0, 3, 4, 5, 1000000):
            for pause in (0, 1, 1000000):
                told = last(*TWO, step(0, (1, 3, patience, pause)), calls_of(0, 1))
                self.assertEqual(told, [0, 3], (patience, pause))

    def test_several_links_to_the_same_in_one_step(self):
        told = last(*TWO, step(0, (1, 1, 9, 0), (1, 2, 0, 0), (1, 5, 9, 9), (1, 1, 9, 0)), calls_of(0, 1))
        self.assertEqual(told, [0, 9])

    def test_several_links_to_the_same_in_several_steps(self):
        told = ask(*TWO, step(0, (1, 2, 9, 0)), calls_of(0, 1), step(0, (1, 3, 9, 0), (1, 1, 9, 0)), calls_of(0, 1),
                   step(0, (1, 1, 9, 0)), calls_of(0, 1), step(0, (1, 5, 9, 0)), calls_of(0, 1))
        self.assertEqual(told[2:], [[1], [0, 2], [2], [0, 6], [3], [0, 7], [4], [0, 12]])

    def test_other_links_of_the_same_step(self):
        calls = [service(1)] * 4 + [step(0, (1, 2, 9, 0), (2, 3, 9, 0), (3, 4, 9, 0))]
        self.assertEqual(asked_behind(calls, [calls_of(0, t) for t in range(4)]), [[0, 1], [0, 2], [0, 3], [0, 4]])

    def test_tries_within_tries(self):
        # Of 2: five for each of three calls of 1.
        calls = [service(1)] * 3 + [step(0, (1, 3, 9, 0)), step(1, (2, 5, 9, 0))]
        self.assertEqual(asked_behind(calls, [calls_of(0, t) for t in range(3)]), [[0, 1], [0, 3], [0, 15]])

    def test_a_service_called_by_several(self):
        # Of 3: 2 * 3 by 1, 4 * 5 by 2, and 1 by 0 itself.
        calls = [service(1)] * 4 + [step(0, (1, 2, 9, 0), (2, 4, 9, 0)), step(0, (3, 1, 9, 0)),
                                    step(1, (3, 3, 9, 0)), step(2, (3, 5, 9, 0))]
        self.assertEqual(asked_behind(calls, [calls_of(s, 3) for s in range(4)]), [[0, 27], [0, 3], [0, 5], [0, 1]])
        self.assertEqual(asked_behind(calls, [calls_of(0, t) for t in range(3)]), [[0, 1], [0, 2], [0, 4]])

    def test_sixteen_one_behind_another(self):
        calls = [service(1)] * 16 + [step(s, (s + 1, 2, 9, 0)) for s in range(15)]
        self.assertEqual(asked_behind(calls, [calls_of(0, t) for t in range(16)]), [[0, 2 ** t] for t in range(16)])
        self.assertEqual(asked_behind(calls, [calls_of(s, 15) for s in range(16)]),
                         [[0, 2 ** (15 - s)] for s in range(16)])

    def test_sixteen_one_behind_another_called_downwards(self):
        calls = [service(1)] * 16 + [step(s, (s - 1, 3, 0, 0)) for s in range(1, 16)]
        self.assertEqual(asked_behind(calls, [calls_of(15, t) for t in range(16)]),
                         [[0, 3 ** (15 - t)] for t in range(16)])

    def test_asking_changes_nothing(self):
        asked = [calls_of(0, 1), calls_of(0, 1), time(0), service(1), step(0, (1, 1, 9, 0)), calls_of(0, 1)]
        told = asked_behind(TWO + (step(0, (1, 2, 9, 3)),), asked)
        self.assertEqual(told, [[0, 2], [0, 2], [0, 14], [2], [2], [0, 3]])


class All(unittest.TestCase):
    def test_no_such_service(self):
        self.assertEqual(last(all_of(0)), [-2])
        for s in (2, 15, 16, TOP):
            self.assertEqual(last(*TWO, all_of(s)), [-2], s)

    def test_no_such_service_where_there_is_a_ring(self):
        self.assertEqual(last(*RING, all_of(5)), [-2])

    def test_a_ring(self):
        self.assertEqual(asked_behind(RING, [all_of(s) for s in range(5)]), [[-41], [-41], [-41], [0, 1], [0, 1]])
        self.assertEqual(last(service(1), step(0, (0, 1, 1, 1)), all_of(0)), [-41])

    def test_refusals_change_nothing(self):
        told = asked_behind(RING, [all_of(0), all_of(9), all_of(3), step(3, (4, 2, 9, 0)), service(1), all_of(3)])
        self.assertEqual(told, [[-41], [-2], [0, 1], [1], [5], [0, 3]])

    def test_no_steps(self):
        self.assertEqual(last(service(0), all_of(0)), [0, 1])
        self.assertEqual(last(*TWO, all_of(0)), [0, 1])
        self.assertEqual(last(*TWO, step(0, (1, 5, 9, 0)), all_of(1)), [0, 1])

    def test_one_link(self):
        for tries in (1, 2, 3, 4, 5):
            self.assertEqual(last(*TWO, step(0, (1, tries, 0, 9)), all_of(0)), [0, 1 + tries])

    def test_a_service_called_by_several(self):
        # 1 of 0, 2 of 1, 4 of 2, and of 3: 2 * 3 + 4 * 5 + 1.
        calls = [service(1)] * 5 + [step(0, (1, 2, 9, 0), (2, 4, 9, 0)), step(0, (3, 1, 9, 0)),
                                    step(1, (3, 3, 9, 0)), step(2, (3, 5, 9, 0))]
        self.assertEqual(asked_behind(calls, [all_of(s) for s in range(5)]),
                         [[0, 34], [0, 4], [0, 6], [0, 1], [0, 1]])

    def test_sixteen_one_behind_another(self):
        calls = [service(1)] * 16 + [step(s, (s + 1, 2, 9, 0)) for s in range(15)]
        self.assertEqual(asked_behind(calls, [all_of(s) for s in range(16)]),
                         [[0, 2 ** (16 - s) - 1] for s in range(16)])

    def test_it_is_the_calls_of_all_services_together(self):
        nets = (
            [service(1)] * 3,
            [service(1)] * 3 + [step(0, (1, 2, 0, 0), (1, 3, 9, 0)), step(1, (2, 5, 3, 1)), step(0, (2, 4, 1, 1))],
            [service(1)] * 6 + [step(5, (3, 5, 9, 0), (0, 1, 9, 0)), step(3, (1, 2, 9, 0)), step(1, (0, 4, 9, 0)),
                                step(3, (0, 1, 9, 0)), step(4, (5, 2, 0, 0), (3, 3, 9, 0)), step(2, (4, 1, 0, 0))],
            # The ring of 1 and 2 is not reached by the others.
            [service(1)] * 5 + [step(1, (2, 1, 9, 0)), step(2, (1, 1, 9, 0), (0, 1, 9, 0)), step(3, (0, 2, 9, 0)),
                                step(4, (0, 3, 9, 0), (3, 4, 9, 0))],
            [service(1)] * 16 + [step(s, *[(s + 1, 4, 9, 0)] * 2) for s in range(15)],
        )
        for net in nets:
            count = len([call for call in net if call[0] == 1])
            for s in range(count):
                single = asked_behind(net, [calls_of(s, t) for t in range(count)])
                told = asked_behind(net, [all_of(s)])
                if single[0] == [-41]:
                    self.assertEqual((single, told), ([[-41]] * count, [[-41]]), (net, s))
                else:
                    self.assertEqual(told, [[0, sum(number for zero, number in single)]], (net, s))

    def test_asking_changes_nothing(self):
        asked = [all_of(0), all_of(0), calls_of(0, 1), service(1), step(0, (2, 1, 9, 0)), all_of(0), quiet(0)]
        told = asked_behind(TWO + (step(0, (1, 2, 9, 3)),), asked)
        self.assertEqual(told, [[0, 3], [0, 3], [0, 2], [2], [2], [0, 4], [0, 15]])


if __name__ == "__main__":
    unittest.main()
