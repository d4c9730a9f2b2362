import unittest

from helper import ask, last, service, step, time

GOOD = (1, 1, 10, 0)
BAD_WHOM = (2, 1, 10, 0)
BAD_TRIES = (1, 6, 10, 0)
TWO = (service(3), service(4))
FULL = TWO + (step(0, GOOD),) * 4
TOP = 4294967295


def step_of_two(s, *links):
    """The answer to a step of one of two services, numbers 0 and 1."""
    return last(*TWO, step(s, *links))


class Taken(unittest.TestCase):
    def test_tells_how_many(self):
        told = ask(*TWO, step(0, GOOD), step(1, (0, 1, 1, 1)), step(0, GOOD), step(0, GOOD))
        self.assertEqual(told[2:], [[1], [1], [2], [3]])

    def test_comes_last_and_counts_for_its_service_alone(self):
        told = ask(*TWO, step(0, GOOD), time(0), time(1), step(0, (1, 2, 10, 1)), time(0), time(1))
        self.assertEqual(told[2:], [[1], [0, 7], [0, 4], [2], [0, 16], [0, 4]])

    def test_one_to_four_links(self):
        for many in (1, 2, 3, 4):
            self.assertEqual(step_of_two(0, *[GOOD] * many), [1], many)

    def test_may_name_itself(self):
        self.assertEqual(step_of_two(0, (0, 1, 10, 0)), [1])

    def test_numbers_at_their_edges(self):
        for link in ((1, 1, 0, 0), (1, 5, 0, 0), (1, 1, 1000000, 0), (1, 1, 0, 1000000),
                     (0, 5, 1000000, 1000000)):
            self.assertEqual(step_of_two(0, link), [1], link)

    def test_the_last_service_there_is_is_named(self):
        sixteen = [service(1)] * 16
        self.assertEqual(last(*sixteen, step(0, (15, 1, 1, 1))), [1])
        self.assertEqual(last(*sixteen, step(15, (0, 1, 1, 1))), [1])

    def test_fourth_and_fifth(self):
        self.assertEqual(ask(*FULL, step(0, GOOD), step(1, GOOD))[2:],
                         [[1], [2], [3], [4], [-28], [1]])


class Refused(unittest.TestCase):
    def test_no_such_service(self):
        for s in (2, 3, 15, 16, TOP):
            self.assertEqual(step_of_two(s, GOOD), [-2], s)
        self.assertEqual(last(step(0, (0, 1, 1, 1))), [-2])

    def test_no_links_or_too_many(self):
        for many in (0, 5, 6, 7, 8, 9, 10):
            self.assertEqual(step_of_two(0, *[GOOD] * many), [-22], many)

    def test_a_number_beyond_its_edge(self):
        for link in ((1, 0, 10, 0), (1, 6, 10, 0), (1, TOP, 10, 0),
                     (1, 1, 1000001, 0), (1, 1, TOP, 0), (1, 1, 10, 1000001), (1, 1, 10, TOP)):
            self.assertEqual(step_of_two(0, link), [-22], link)

    def test_a_number_beyond_its_edge_in_any_link(self):
        for place in range(4):
            links = [GOOD] * 4
            links[place] = BAD_TRIES
            self.assertEqual(step_of_two(0, *links), [-22], place)

    def test_whom_there_is_not(self):
        for whom in (2, 15, 16, TOP):
            self.assertEqual(step_of_two(0, (whom, 1, 10, 0)), [-2], whom)

    def test_whom_there_is_not_in_any_link(self):
        for place in range(4):
            links = [GOOD] * 4
            links[place] = BAD_WHOM
            self.assertEqual(step_of_two(0, *links), [-2], place)

    def test_whom_is_there_once_it_has_come(self):
        told = ask(*TWO, step(0, BAD_WHOM), service(5), step(0, BAD_WHOM), time(0))
        self.assertEqual(told[2:], [[-2], [2], [1], [0, 8]])


class SeveralRefusalsDue(unittest.TestCase):
    def test_no_service_before_wrong_links(self):
        self.assertEqual(step_of_two(2), [-2])
        self.assertEqual(step_of_two(2, *[GOOD] * 5), [-2])
        for link in (BAD_TRIES, (1, 1, 1000001, 0), (1, 1, 0, 1000001)):
            self.assertEqual(step_of_two(2, link), [-2], link)

    def test_no_service_and_no_whom(self):
        self.assertEqual(step_of_two(2, BAD_WHOM), [-2])

    def test_wrong_links_before_no_whom(self):
        self.assertEqual(step_of_two(0, *[BAD_WHOM] * 5), [-22])
        for link in ((2, 0, 10, 0), (2, 6, 10, 0), (2, 1, 1000001, 0), (2, 1, 10, 1000001)):
            self.assertEqual(step_of_two(0, link), [-22], link)

    def test_wrong_link_behind_one_that_names_nobody(self):
        self.assertEqual(step_of_two(0, BAD_WHOM, BAD_TRIES), [-22])
        self.assertEqual(step_of_two(0, BAD_TRIES, BAD_WHOM), [-22])

    def test_wrong_links_before_four_steps(self):
        self.assertEqual(last(*FULL, step(0)), [-22])
        self.assertEqual(last(*FULL, step(0, *[GOOD] * 5)), [-22])
        for link in (BAD_TRIES, (1, 0, 0, 0), (1, 1, 1000001, 0), (1, 1, 0, 1000001)):
            self.assertEqual(last(*FULL, step(0, link)), [-22], link)

    def test_no_whom_before_four_steps(self):
        self.assertEqual(last(*FULL, step(0, BAD_WHOM)), [-2])
        self.assertEqual(last(*FULL, step(0, GOOD, BAD_WHOM)), [-2])

    def test_all_but_the_first(self):
        self.assertEqual(last(*FULL, step(0, (2, 6, 10, 0))), [-22])


class RefusedChangesNothing(unittest.TestCase):
    def test_neither_times_nor_the_count_of_steps(self):
        refused = (step(2, GOOD), step(0), step(0, *[GOOD] * 5), step(0, GOOD, BAD_TRIES),
                   step(0, GOOD, BAD_WHOM), step(0, (1, 1, 1000001, 0)), step(0, (1, 1, 0, 1000001)))
        for call in refused:
            told = ask(*TWO, step(0, GOOD), call, time(0), time(1), step(0, GOOD), time(0), service(1))
            self.assertEqual(told[2], [1])
            self.assertEqual(told[4:], [[0, 7], [0, 4], [2], [0, 11], [2]], call)

    def test_the_fifth_step(self):
        told = ask(*FULL, step(0, (1, 5, 10, 9)), time(0), step(0, GOOD))
        self.assertEqual(told[6:], [[-28], [0, 19], [-28]])

    def test_a_refused_ring_is_none(self):
        told = ask(*TWO, step(0, (0, 1, 1, 0), BAD_WHOM), time(0))
        self.assertEqual(told[2:], [[-2], [0, 3]])


if __name__ == "__main__":
    unittest.main()
