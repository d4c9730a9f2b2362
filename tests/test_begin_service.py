import unittest

from helper import ask, last, service, step, time

LINK = (0, 1, 5, 0)


class Begin(unittest.TestCase):
    def test_once(self):
        self.assertEqual(ask(), [])

    def test_again_at_once(self):
        self.assertEqual(ask([0], [0]), [[0], [0]])

    def test_again_leaves_no_service(self):
        told = ask(service(3), service(4), step(1, LINK), [0], time(0), time(1), step(0, LINK))
        self.assertEqual(told, [[0], [1], [1], [0], [-2], [-2], [-2]])

    def test_again_leaves_no_steps(self):
        told = ask(service(3), service(4), step(1, LINK), step(1, LINK),
                   [0], service(7), service(8), time(1), step(1, LINK), time(1))
        self.assertEqual(told[4:], [[0], [0], [1], [0, 8], [1], [0, 13]])

    def test_again_makes_room_for_sixteen(self):
        sixteen = [service(1)] * 16
        told = ask(*sixteen, [0], *sixteen, service(1))
        self.assertEqual(told, [[n] for n in range(16)] + [[0]] + [[n] for n in range(16)] + [[-28]])


class Services(unittest.TestCase):
    def test_numbered_as_they_come(self):
        self.assertEqual(ask(service(5), service(5), service(2)), [[0], [1], [2]])

    def test_work_at_its_edges(self):
        for work, answer in ((0, [0]), (1, [0]), (999999, [0]), (1000000, [0]),
                             (1000001, [-22]), (4294967295, [-22])):
            self.assertEqual(ask(service(work)), [answer], work)

    def test_new_one_has_its_work_and_no_steps(self):
        self.assertEqual(ask(service(0), time(0)), [[0], [0, 0]])
        self.assertEqual(ask(service(1000000), time(0)), [[0], [0, 1000000]])
        self.assertEqual(last(service(1), step(0, LINK)), [1])

    def test_sixteenth_and_seventeenth(self):
        told = ask(*[service(n) for n in range(17)])
        self.assertEqual(told, [[n] for n in range(16)] + [[-28]])

    def test_both_refusals_due(self):
        self.assertEqual(last(*[service(1)] * 16, service(1000001)), [-22])

    def test_too_much_work_takes_no_number(self):
        told = ask(service(1), service(1000001), time(1), service(2), time(1))
        self.assertEqual(told, [[0], [-22], [-2], [1], [0, 2]])

    def test_seventeenth_changes_nothing(self):
        told = ask(*[service(n) for n in range(16)], service(99), time(16), time(15), time(0), service(99))
        self.assertEqual(told[16:], [[-28], [-2], [0, 15], [0, 0], [-28]])


if __name__ == "__main__":
    unittest.main()
