import unittest

from helper import ask, beat, begins, job, last, machine, result, serve, tick
from labelrunners.house import answers

GREATEST = 4294967295


class Ordinary(unittest.TestCase):
    def test_whole_list(self):
        self.assertEqual(answers([1, 7, 0, 4, 7]), [1, 1, 1, 0])

    def test_heard_of_now(self):
        self.assertEqual(ask(machine(1), tick(5), beat(1), tick(5), tick(1)),
                         [[1], [0], [0], [0], [1, 1]])

    def test_only_that_machine(self):
        self.assertEqual(ask(machine(1), machine(2), tick(5), beat(1), tick(1)),
                         [[1], [2], [0], [0], [1, 2]])

    def test_machine_0(self):
        self.assertEqual(ask(machine(0), tick(5), beat(0), tick(5)), [[1], [0], [0], [0]])

    def test_machine_on_which_a_job_runs(self):
        calls = [machine(1), job(5), serve(), tick(5), beat(1), tick(5), result(0, 1)]
        self.assertEqual(ask(*calls)[3:], [[0], [0], [0], [1]])


class Refused(unittest.TestCase):
    def test_no_such_machine(self):
        self.assertEqual(answers([4, 0]), [1, -2])
        self.assertEqual(ask(machine(1), beat(2), beat(0), beat(GREATEST), beat(1)),
                         [[1], [-2], [-2], [-2], [0]])

    def test_lost_machine(self):
        self.assertEqual(last(machine(1), tick(6), beat(1)), [-2])

    def test_a_job_is_no_machine(self):
        self.assertEqual(last(job(1), beat(1)), [-2])

    def test_machine_that_was_refused(self):
        self.assertEqual(last(machine(1, 65536), beat(1)), [-2])

    def test_no_machines_behind_begins(self):
        self.assertEqual(last(machine(1), begins(5, 10), beat(1)), [-2])

    def test_all_is_as_it_was(self):
        calls = [machine(1), job(5), serve(), tick(5), beat(2), machine(2), tick(1)]
        self.assertEqual(ask(*calls)[3:], [[0], [-2], [2], [1, 1, 5]])


if __name__ == "__main__":
    unittest.main()
