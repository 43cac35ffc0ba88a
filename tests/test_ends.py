import unittest

from helper import (ask, begins, cancel, drain, ends, job, last, machine, result, serve,
                    state_behind, tick)
from labelrunners.house import answers

GREATEST = 4294967295
THREE = [machine(1), machine(2), machine(3), job(5), job(6), job(7), serve()]


class Ordinary(unittest.TestCase):
    def test_whole_list(self):
        line = [1, 1, 0, 2, 5, 0, 0, 1, 2, 4, 0, 0, 1, 3, 5, 0, 1, 8, 4, 12]
        self.assertEqual(answers(line), [1, 1, 1, 1, 1, 2, 4, 1, 5, 1, 0, 1, 1, 1, 0,
                                         5, 2, 5, 1, 4, 2])

    def test_none(self):
        self.assertEqual(answers([12]), [1, 0])

    def test_jobs_that_are_here_are_not_told(self):
        self.assertEqual(last(machine(1), job(5), job(6), serve(), ends()), [0])

    def test_passed(self):
        for passed in (1, 2, GREATEST):
            self.assertEqual(last(machine(1), job(5, tries=2), serve(), result(0, passed), ends()),
                             [1, 5, 1])

    def test_failed(self):
        self.assertEqual(last(machine(1), job(5), serve(), result(0, 0), ends()), [1, 5, 0])

    def test_failed_with_a_try_left_is_not_over(self):
        calls = [machine(1), job(5, tries=2), serve(), result(0, 0), ends(), serve(), result(1, 0),
                 ends()]
        self.assertEqual(ask(*calls)[4::3], [[0], [1, 5, 0]])

    def test_called_off(self):
        self.assertEqual(last(job(5), cancel(5), ends()), [1, 5, 2])
        self.assertEqual(last(machine(1), job(5), serve(), cancel(5), ends()), [1, 5, 2])

    def test_lost_is_not_over(self):
        self.assertEqual(last(machine(1), job(5), serve(), tick(6), ends()), [0])

    def test_numbers_at_the_edges(self):
        self.assertEqual(last(job(GREATEST), job(0), cancel(0), cancel(GREATEST), ends()),
                         [2, 0, 2, GREATEST, 2])

    def test_nothing_is_changed(self):
        before = [*THREE, result(1, 0), cancel(5), tick(2), drain(3), job(8)]
        self.assertEqual(state_behind(*before, ends()), state_behind(*before))


class Order(unittest.TestCase):
    def test_as_they_came_to_be_over(self):
        calls = [*THREE, result(2, 1), cancel(5), result(1, 0), ends()]
        self.assertEqual(last(*calls), [3, 7, 1, 5, 2, 6, 0])
        calls = [*THREE, result(1, 1), result(0, 1), result(2, 1), ends()]
        self.assertEqual(last(*calls), [3, 6, 1, 5, 1, 7, 1])

    def test_not_as_they_came_or_failed_at_first(self):
        calls = [machine(1), machine(2), job(5, tries=2), job(6), serve(), result(0, 0), result(1, 0),
                 serve(), result(2, 1), ends()]
        self.assertEqual(last(*calls), [2, 6, 0, 5, 1])

    def test_one_behind_another(self):
        calls = [*THREE, ends(), cancel(7), ends(), result(0, 1), ends(), result(1, 0), ends()]
        self.assertEqual(ask(*calls)[7::2],
                         [[0], [1, 7, 2], [2, 7, 2, 5, 1], [3, 7, 2, 5, 1, 6, 0]])

    def test_many(self):
        calls = []
        for number in range(29, 0, -1):
            calls += [job(number), cancel(number)]
        told = last(*calls, ends())
        self.assertEqual(told[0], 29)
        self.assertEqual(told[1::2], list(range(29, 0, -1)))
        self.assertEqual(told[2::2], [2] * 29)


class Kept(unittest.TestCase):
    def test_a_job_ends_once(self):
        calls = [machine(1), job(5), serve(), result(0, 1), cancel(5), result(0, 0), job(5), ends()]
        self.assertEqual(ask(*calls)[4:], [[-2], [-5], [-4], [1, 5, 1]])
        calls = [machine(1), job(5), serve(), cancel(5), result(0, 1), cancel(5), ends()]
        self.assertEqual(last(*calls), [1, 5, 2])

    def test_empty_behind_begins(self):
        calls = [*THREE, result(0, 1), result(1, 0), cancel(7), ends(), begins(5, 10), ends(), job(7),
                 cancel(7), ends()]
        self.assertEqual(ask(*calls)[10:], [[3, 5, 1, 6, 0, 7, 2], [0], [0], [1], [0], [1, 7, 2]])

    def test_kept_behind_a_begins_that_is_refused(self):
        self.assertEqual(last(job(5), cancel(5), begins(0, 10), ends()), [1, 5, 2])


if __name__ == "__main__":
    unittest.main()
