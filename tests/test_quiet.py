import unittest

from helper import all_of, ask, asked_behind, calls_of, last, quiet, service, step, time

MILLION = 1000000
TOP = 4294967295


class Refused(unittest.TestCase):
    def test_no_such_service(self):
        self.assertEqual(last(quiet(0)), [-2])
        for s in (2, 15, 16, TOP):
            self.assertEqual(last(service(1), service(1), quiet(s)), [-2], s)

    def test_no_such_service_where_there_is_a_ring(self):
        self.assertEqual(last(service(1), step(0, (0, 1, 1, 1)), quiet(1)), [-2])

    def test_one_that_calls_itself(self):
        self.assertEqual(last(service(1), step(0, (0, 1, 0, 0)), quiet(0)), [-41])

    def test_a_ring_reached_and_not(self):
        # The ring of 1 and 2 calls 0 and is called by 3; 4 calls 0 alone.
        calls = [service(2)] * 5 + [step(1, (2, 1, 9, 0)), step(2, (1, 1, 9, 0), (0, 1, 9, 0)),
                                    step(3, (0, 1, 9, 0)), step(3, (1, 1, 9, 0)), step(4, (0, 1, 1, 0))]
        self.assertEqual(asked_behind(calls, [quiet(s) for s in range(5)]), [[0, 2], [-41], [-41], [-41], [0, 4]])

    def test_a_ring_of_all_sixteen(self):
        calls = [service(1)] * 16 + [step(s, ((s + 1) % 16, 1, 0, 0)) for s in range(16)]
        self.assertEqual(asked_behind(calls, [quiet(s) for s in range(16)]), [[-41]] * 16)

    def test_changes_nothing(self):
        told = ask(service(1), step(0, (0, 1, 1, 1)), quiet(0), quiet(1), step(0, (0, 1, 1, 1)), service(6),
                   quiet(1), step(1, (1, 1, 1, 1)), quiet(1))
        self.assertEqual(told[2:], [[-41], [-2], [2], [1], [0, 6], [1], [-41]])


class OneLink(unittest.TestCase):
    def told(self, work, called_work, tries, patience, pause):
        """How long the first of two lasts, and when it is quiet."""
        calls = (service(work), service(called_work), step(0, (1, tries, patience, pause)))
        (zero, lasts), (other_zero, is_quiet) = asked_behind(calls, (time(0), quiet(0)))
        self.assertEqual((zero, other_zero), (0, 0))
        return lasts, is_quiet

    def test_no_steps(self):
        for work in (0, 1, 17, MILLION):
            self.assertEqual(last(service(work), quiet(0)), [0, work])

    def test_a_patience_of_0(self):
        # The last try begins behind the work and the pauses, and goes on for 4.
        self.assertEqual(self.told(3, 4, 1, 0, 9), (3, 7))
        self.assertEqual(self.told(3, 4, 3, 0, 9), (21, 25))
        self.assertEqual(self.told(3, 4, 5, 0, 0), (3, 7))

    def test_a_patience_just_as_long_as_the_call_and_beside_it(self):
        # 3 + 3 + 1, and 4 more; 3 + 4 + 1, and 4 more
        self.assertEqual(self.told(3, 4, 2, 3, 1), (10, 11))
        self.assertEqual(self.told(3, 4, 2, 4, 1), (12, 12))
        self.assertEqual(self.told(3, 4, 2, 5, 1), (12, 12))
        self.assertEqual(self.told(3, 4, 1, 3, 1), (6, 7))
        self.assertEqual(self.told(3, 4, 1, 4, 1), (7, 7))
        self.assertEqual(self.told(3, 4, 1, 5, 1), (7, 7))

    def test_one_try_has_no_pause(self):
        self.assertEqual(self.told(3, 100, 1, 10, 1000), (13, 103))

    def test_five_tries(self):
        # The fifth begins at 3 + 4 * (10 + 7).
        self.assertEqual(self.told(3, 100, 5, 10, 7), (81, 171))
        self.assertEqual(self.told(3, 10, 5, 10, 7), (81, 81))

    def test_a_pause_longer_than_all_else(self):
        self.assertEqual(self.told(1, 5, 2, 2, MILLION), (1000005, 1000008))
        self.assertEqual(self.told(1, 1, 5, 1, MILLION), (4000006, 4000006))

    def test_a_called_service_without_work(self):
        self.assertEqual(self.told(0, 0, 5, 0, 0), (0, 0))
        self.assertEqual(self.told(2, 0, 5, 0, 3), (14, 14))

    def test_the_longest_there_is(self):
        self.assertEqual(self.told(MILLION, MILLION, 5, MILLION, MILLION), (10 * MILLION, 10 * MILLION))
        self.assertEqual(self.told(MILLION, MILLION, 5, MILLION - 1, MILLION), (10 * MILLION - 5, 10 * MILLION - 4))


class SeveralLinks(unittest.TestCase):
    def told_of_0(self, works, *steps):
        calls = [service(work) for work in works] + list(steps)
        return asked_behind(calls, [time(0), quiet(0)])

    def test_given_up_in_the_first_step_and_quiet_behind_the_last(self):
        # Over at 1 + 2 + 3 + 3; what was given up goes on to 1 + 100.
        told = self.told_of_0((1, 100, 3), step(0, (1, 1, 2, 0)), step(0, (2, 1, 9, 0)), step(0, (2, 1, 9, 0)))
        self.assertEqual(told, [[0, 9], [0, 101]])

    def test_given_up_in_the_first_step_and_quiet_just_beside_the_last(self):
        for work, told in ((7, 9), (8, 9), (9, 10)):
            steps = (step(0, (1, 1, 2, 0)), step(0, (2, 1, 9, 0)), step(0, (2, 1, 9, 0)))
            self.assertEqual(self.told_of_0((1, work, 3), *steps), [[0, 9], [0, told]], work)

    def test_given_up_in_a_step_between(self):
        # The second step begins at 1 + 3, its last try at 1 + 3 + 2 + 5, and goes on for 50; over at 1 + 3 + 9 + 3.
        told = self.told_of_0((1, 50, 3), step(0, (2, 1, 9, 0)), step(0, (1, 2, 2, 5)), step(0, (2, 1, 9, 0)))
        self.assertEqual(told, [[0, 16], [0, 61]])

    def test_the_same_is_given_up_in_each_step(self):
        # The last step begins at 1 + 3 * 2.
        told = self.told_of_0((1, 50), *[step(0, (1, 1, 2, 0))] * 4)
        self.assertEqual(told, [[0, 9], [0, 57]])

    def test_a_link_that_is_not_the_longest_of_its_step_is_quiet_last(self):
        # The first lasts 2 for who calls and goes on to 100, the second lasts 10, the third 3.
        links = [(1, 1, 2, 0), (2, 1, 99, 0), (3, 1, 99, 0)]
        for turn in range(3):
            told = self.told_of_0((1, 100, 10, 3), step(0, *(links[turn:] + links[:turn])))
            self.assertEqual(told, [[0, 11], [0, 101]], turn)

    def test_a_link_that_is_the_longest_is_quiet_last(self):
        # The first goes on to 8, the second begins its last try at 10 + 4 and lasts to 24.
        told = self.told_of_0((1, 8, 10), step(0, (1, 1, 2, 0), (2, 2, 10, 4)))
        self.assertEqual(told, [[0, 25], [0, 25]])

    def test_the_next_step_waits_for_the_longest_link_alone(self):
        # The second step begins at 1 + 10, not when the first is quiet; 1 is called there again, and given up.
        told = self.told_of_0((1, 100, 10), step(0, (1, 1, 2, 0), (2, 1, 99, 0)), step(0, (1, 1, 2, 0)))
        self.assertEqual(told, [[0, 13], [0, 111]])

    def test_a_pause_longer_than_all_else_in_the_other_link(self):
        # The first link goes on to 1 + 30, the second is over at 1 + 2 * 1 + 90.
        told = self.told_of_0((1, 30, 1), step(0, (1, 1, 4, 0), (2, 2, 99, 90)))
        self.assertEqual(told, [[0, 93], [0, 93]])

    def test_one_that_calls_the_same_twice_in_a_step(self):
        # One link waits 6 once, the other 2 twice with a pause of 3: its last try begins at 1 + 2 + 3.
        told = self.told_of_0((1, 10), step(0, (1, 1, 6, 0), (1, 2, 2, 3)))
        self.assertEqual(told, [[0, 8], [0, 16]])


class SeveralBehindOneAnother(unittest.TestCase):
    def test_what_the_called_gave_up_counts(self):
        # 1 waits 2 for 2 and is over at 5, and quiet at 3 + 40. 0 waits 1 out.
        calls = (service(1), service(3), service(40), step(0, (1, 1, 99, 0)), step(1, (2, 1, 2, 0)))
        self.assertEqual(asked_behind(calls, [time(0), quiet(0), quiet(1), quiet(2)]),
                         [[0, 6], [0, 44], [0, 43], [0, 40]])

    def test_a_try_lasts_until_the_call_is_over_and_not_until_it_is_quiet(self):
        # 1 is over at 5 and quiet at 43, and 0 would wait 20: its second try begins at 1 + 5 + 7.
        calls = (service(1), service(3), service(40), step(0, (1, 2, 20, 7)), step(1, (2, 1, 2, 0)))
        self.assertEqual(asked_behind(calls, [time(0), quiet(0)]), [[0, 18], [0, 56]])

    def test_given_up_by_each(self):
        # 2 lasts 40. 1 tries it twice for 5, from 3 and from 9: quiet at 49, over at 14.
        # 0 tries 1 three times for 4, from 1, 7 and 13: over at 17, quiet at 13 + 49.
        calls = (service(1), service(3), service(40), step(0, (1, 3, 4, 2)), step(1, (2, 2, 5, 1)))
        self.assertEqual(asked_behind(calls, [time(1), quiet(1), time(0), quiet(0)]),
                         [[0, 14], [0, 49], [0, 17], [0, 62]])

    def test_a_service_called_by_several(self):
        # 3 lasts 10. 1 gives it up twice, from 2 and from 2 + 4 + 1: quiet at 17. 2 waits it out: quiet at 13.
        # 0 gives both up at once, behind 1; behind that it calls 3 and gives it up: over at 1, quiet at 1 + 17.
        calls = (service(1), service(2), service(3), service(10), step(1, (3, 2, 4, 1)), step(2, (3, 1, 10, 0)),
                 step(0, (1, 1, 0, 0), (2, 1, 0, 0)), step(0, (3, 1, 0, 0)))
        self.assertEqual(asked_behind(calls, [quiet(s) for s in range(4)]), [[0, 18], [0, 17], [0, 13], [0, 10]])
        self.assertEqual(asked_behind(calls, [time(0)]), [[0, 1]])

    def test_sixteen_with_a_patience_of_0(self):
        calls = [service(s) for s in range(16)] + [step(s, (s + 1, 1, 0, 9)) for s in range(15)]
        self.assertEqual(asked_behind(calls, [time(s) for s in range(16)]), [[0, s] for s in range(16)])
        self.assertEqual(asked_behind(calls, [quiet(s) for s in range(16)]),
                         [[0, sum(range(s, 16))] for s in range(16)])

    def test_sixteen_called_downwards(self):
        # Each but the first works 1, gives up the one below at once, and calls it again 4 later: 1 + 4.
        calls = [service(1)] * 16 + [step(s, (s - 1, 2, 0, 4)) for s in range(1, 16)]
        self.assertEqual(asked_behind(calls, [quiet(s) for s in range(16)]), [[0, 1 + 5 * s] for s in range(16)])

    def test_a_later_step_of_the_called_counts(self):
        told = ask(service(1), service(2), service(30), step(0, (1, 1, 1, 0)), quiet(0),
                   step(1, (2, 1, 1, 0)), quiet(0), time(0))
        self.assertEqual(told[3:], [[1], [0, 3], [1], [0, 33], [0, 2]])

    def test_asking_changes_nothing(self):
        calls = (service(1), service(20), step(0, (1, 2, 2, 3)))
        asked = [quiet(0), quiet(0), time(0), calls_of(0, 1), all_of(0), service(1), step(0, (1, 1, 2, 0)), quiet(0)]
        self.assertEqual(asked_behind(calls, asked),
                         [[0, 26], [0, 26], [0, 8], [0, 2], [0, 3], [2], [2], [0, 28]])


if __name__ == "__main__":
    unittest.main()
