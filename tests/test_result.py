import unittest

from helper import ask, begins, job, last, machine, result, serve, tick
from labelrunners.house import answers

GREATEST = 4294967295


class Ordinary(unittest.TestCase):
    def test_whole_list(self):
        line = [1, 1, 0, 2, 5, 0, 0, 2, 3, 5, 0, 0, 3, 5, 1, 0]
        self.assertEqual(answers(line), [1, 1, 1, 1, 4, 1, 5, 1, 0, 1, 2, 4, 1, 5, 1, 1, 1, 0])

    def test_passed(self):
        calls = [machine(1), job(5, tries=3), serve(), result(0, 1), serve(), job(5), job(6)]
        self.assertEqual(ask(*calls)[3:], [[1], [0], [-4], [1]])

    def test_failed_on_its_last_try(self):
        calls = [machine(1), job(5), serve(), result(0, 0), serve(), job(5), job(6)]
        self.assertEqual(ask(*calls)[3:], [[0], [0], [-4], [1]])

    def test_failed_with_a_try_left(self):
        calls = [machine(1), job(5, tries=2), serve(), result(0, 0), job(6), serve()]
        self.assertEqual(ask(*calls)[3:], [[2], [2], [1, 5, 1, 1]])

    def test_one_try_less_each_time(self):
        calls = [machine(1), job(5, tries=3)]
        for lease in range(3):
            calls += [serve(), result(lease, 0)]
        self.assertEqual(ask(*calls)[3::2], [[2], [2], [0]])

    def test_passed_on_its_last_try(self):
        calls = [machine(1), job(5, tries=2), serve(), result(0, 0), serve(), result(1, 1)]
        self.assertEqual(last(*calls), [1])

    def test_most_tries(self):
        self.assertEqual(last(machine(1), job(5, tries=1000000), serve(), result(0, 0)), [2])

    def test_other_numbers_are_taken_as_1(self):
        for passed in (1, 2, 3, 256, 1000001, GREATEST):
            calls = [machine(1), job(5, tries=2), serve(), result(0, passed), job(5)]
            self.assertEqual(ask(*calls)[3:], [[1], [-4]])

    def test_the_job_of_that_lease_alone(self):
        calls = [machine(1), machine(2), job(5), job(6, tries=2), serve(), result(1, 0),
                 result(0, 1), serve()]
        self.assertEqual(ask(*calls)[4:], [[2, 5, 1, 0, 6, 2, 1], [2], [1], [1, 6, 1, 2]])

    def test_a_result_is_no_beat(self):
        calls = [machine(1), job(5), serve(), tick(5), result(0, 1), tick(1)]
        self.assertEqual(ask(*calls)[3:], [[0], [1], [1, 1]])


class Refused(unittest.TestCase):
    def test_no_lease_at_all(self):
        self.assertEqual(answers([5, 0, 1]), [1, -5])
        self.assertEqual(last(machine(1), job(0), result(0, 0)), [-5])

    def test_lease_that_is_not_there_yet(self):
        calls = [machine(1), job(5), serve(), result(1, 1), result(GREATEST, 1), result(0, 1)]
        self.assertEqual(ask(*calls)[3:], [[-5], [-5], [1]])

    def test_no_result_counts_twice(self):
        for passed in (0, 1):
            for again in (0, 1, 2):
                calls = [machine(1), job(5), serve(), result(0, passed), result(0, again)]
                self.assertEqual(ask(*calls)[3:], [[passed], [-5]])

    def test_lease_of_a_job_that_waits_again(self):
        calls = [machine(1), job(5, tries=9), serve(), result(0, 0), result(0, 1)]
        self.assertEqual(ask(*calls)[3:], [[2], [-5]])

    def test_earlier_lease_of_a_job_that_runs_again(self):
        calls = [machine(1), job(5, tries=9), serve(), result(0, 0), serve(), result(0, 1),
                 result(1, 1)]
        self.assertEqual(ask(*calls)[3:], [[2], [1, 5, 1, 1], [-5], [1]])

    def test_lease_of_before_begins(self):
        calls = [machine(1), job(5), serve(), begins(5, 10), machine(1), job(5), result(0, 1)]
        self.assertEqual(last(*calls), [-5])

    def test_all_is_as_it_was(self):
        calls = [machine(1), job(5, tries=2), serve(), result(7, 0), result(7, 1), serve(), job(6),
                 result(0, 0), serve(), result(1, 0)]
        self.assertEqual(ask(*calls)[3:], [[-5], [-5], [0], [2], [2], [1, 5, 1, 1], [0]])


if __name__ == "__main__":
    unittest.main()
