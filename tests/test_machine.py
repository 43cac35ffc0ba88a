import unittest

from helper import ask, begins, job, last, machine, result, serve, tick
from labelrunners.house import answers

GREATEST = 4294967295
SEVEN = [machine(number) for number in range(1, 8)]


class Ordinary(unittest.TestCase):
    def test_whole_list(self):
        self.assertEqual(answers([1, 4, 3, 1, 2, 0, 1, 0, 65535]), [1, 1, 1, 2, 1, 3])

    def test_greatest_number(self):
        self.assertEqual(ask(machine(GREATEST), job(GREATEST), serve()),
                         [[1], [1], [1, GREATEST, GREATEST, 0]])

    def test_heard_of_when_it_came(self):
        self.assertEqual(ask(tick(4), machine(1), tick(5), tick(1)), [[0], [1], [0], [1, 1]])

    def test_lost_machine_may_come_again(self):
        self.assertEqual(ask(machine(1), machine(2), tick(6), machine(1)),
                         [[1], [2], [2, 1, 2], [1]])


class Suits(unittest.TestCase):
    def served(self, has, asks):
        return last(machine(1, has), job(9, asks), serve()) == [1, 9, 1, 0]

    def test_all_labels_that_are_asked(self):
        self.assertTrue(self.served(0, 0))
        self.assertTrue(self.served(5, 0))
        self.assertTrue(self.served(5, 4))
        self.assertTrue(self.served(5, 5))
        self.assertTrue(self.served(65535, 65535))
        self.assertTrue(self.served(32768, 32768))

    def test_one_label_is_missing(self):
        self.assertFalse(self.served(0, 1))
        self.assertFalse(self.served(5, 2))
        self.assertFalse(self.served(5, 7))
        self.assertFalse(self.served(4, 3))
        self.assertFalse(self.served(32767, 65535))
        self.assertFalse(self.served(65534, 1))


class Refused(unittest.TestCase):
    def test_labels_edges(self):
        self.assertEqual(ask(machine(1, 65535), machine(2, 65536), machine(3, GREATEST)),
                         [[1], [-1], [-1]])

    def test_same_number(self):
        self.assertEqual(ask(machine(1, 3), machine(1, 3), machine(1, 0)), [[1], [-4], [-4]])

    def test_seventh_and_eighth(self):
        self.assertEqual(ask(*SEVEN, machine(8)), [[k] for k in range(1, 8)] + [[-7]])

    def test_room_again_when_one_is_lost(self):
        self.assertEqual(ask(begins(1, 1), *SEVEN, tick(2), machine(8))[-1], [1])

    def test_the_one_told_first(self):
        self.assertEqual(last(machine(1), machine(1, 65536)), [-1])
        self.assertEqual(last(*SEVEN, machine(8, 65536)), [-1])
        self.assertEqual(last(*SEVEN, machine(7, 65536)), [-1])
        self.assertEqual(last(*SEVEN, machine(7)), [-4])

    def test_all_is_as_it_was(self):
        told = ask(machine(1, 1), machine(2, 65536), machine(1, 3), job(9, 2), serve(),
                   machine(2, 2), serve())
        self.assertEqual(told, [[1], [-1], [-4], [1], [0], [2], [1, 9, 2, 0]])

    def test_not_heard_of_by_a_refusal(self):
        self.assertEqual(ask(machine(1), tick(5), machine(1), tick(1)), [[1], [0], [-4], [1, 1]])

    def test_eighth_gets_no_job(self):
        jobs = [job(number) for number in range(1, 9)]
        told = last(*SEVEN, machine(0), *jobs, serve())
        self.assertEqual(told[0], 7)
        self.assertEqual(told[2::3], [1, 2, 3, 4, 5, 6, 7])

    def test_running_job_stays_behind_a_refusal(self):
        self.assertEqual(last(machine(1), job(9), serve(), machine(1), result(0, 1)), [1])


if __name__ == "__main__":
    unittest.main()
