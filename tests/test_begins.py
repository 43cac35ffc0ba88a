import unittest

from helper import ask, begins, job, last, machine, result, serve, tick
from labelrunners.house import answers

MOST = 1000000
GREATEST = 4294967295


class Ordinary(unittest.TestCase):
    def test_whole_list(self):
        self.assertEqual(answers([0, 5, 10]), [1, 0])
        self.assertEqual(answers([0, 7, 3, 0, 8, 4]), [1, 0, 1, 0])

    def test_lease_at_the_beginning_lasts_5_minutes(self):
        self.assertEqual(last(machine(1), tick(5)), [0])
        self.assertEqual(last(machine(1), tick(6)), [1, 1])

    def test_age_at_the_beginning_is_10(self):
        jobs = [job(1), tick(9), job(2, urgency=1)]
        self.assertEqual(last(*jobs, machine(7), serve()), [1, 2, 7, 0])
        jobs = [job(1), tick(10), job(2, urgency=1)]
        self.assertEqual(last(*jobs, machine(7), serve()), [1, 1, 7, 0])

    def test_lease_is_set(self):
        self.assertEqual(last(begins(2, 10), machine(1), tick(2)), [0])
        self.assertEqual(last(begins(2, 10), machine(1), tick(3)), [1, 1])

    def test_age_is_set(self):
        jobs = [begins(5, 3), job(1), tick(2), job(2, urgency=1), machine(7), serve()]
        self.assertEqual(last(*jobs), [1, 2, 7, 0])
        jobs = [begins(5, 3), job(1), tick(3), job(2, urgency=1), machine(7), serve()]
        self.assertEqual(last(*jobs), [1, 1, 7, 0])


class AllIsNew(unittest.TestCase):
    def test_no_machines(self):
        self.assertEqual(ask(machine(1), machine(2), begins(5, 10), machine(1))[2:], [[0], [1]])

    def test_no_jobs(self):
        self.assertEqual(ask(job(1), job(2), begins(5, 10), job(1))[2:], [[0], [1]])

    def test_no_jobs_that_are_over(self):
        calls = [machine(1), job(9), serve(), result(0, 1), begins(5, 10), job(9)]
        self.assertEqual(last(*calls), [1])

    def test_minute_0(self):
        self.assertEqual(ask(tick(MOST), begins(5, 10), tick(MOST), tick(1)), [[0], [0], [0], [-1]])

    def test_leases_from_0_again(self):
        round_of_calls = [machine(1), job(9), serve()]
        told = ask(*round_of_calls, begins(5, 10), *round_of_calls)
        self.assertEqual(told[2], [1, 9, 1, 0])
        self.assertEqual(told[6], [1, 9, 1, 0])

    def test_no_lease_runs(self):
        self.assertEqual(last(machine(1), job(9), serve(), begins(5, 10), result(0, 1)), [-5])


class Refused(unittest.TestCase):
    def test_lease_edges(self):
        self.assertEqual(ask(begins(0, 10), begins(1, 10), begins(MOST, 10), begins(MOST + 1, 10)),
                         [[-1], [0], [0], [-1]])
        self.assertEqual(ask(begins(GREATEST, 10)), [[-1]])

    def test_age_edges(self):
        self.assertEqual(ask(begins(5, 0), begins(5, 1), begins(5, MOST), begins(5, MOST + 1)),
                         [[-1], [0], [0], [-1]])
        self.assertEqual(ask(begins(5, GREATEST)), [[-1]])

    def test_both_wrong(self):
        self.assertEqual(answers([0, 0, MOST + 1]), [1, -1])

    def test_all_is_as_it_was(self):
        before = [begins(3, 2), tick(1), machine(1), machine(2), job(8), serve()]
        for refused in (begins(0, 1), begins(1, 0), begins(MOST + 1, 1), begins(1, MOST + 1)):
            told = ask(*before, refused, job(8), machine(1), job(9), serve(), result(0, 1),
                       tick(3), tick(1), tick(MOST - 5), tick(1))
            self.assertEqual(told[6:], [[-1], [-4], [-4], [2], [1, 9, 2, 1], [1],
                                        [0], [2, 1, 2, 9], [0], [-1]])

    def test_age_is_as_it_was(self):
        calls = [begins(5, 3), job(1), begins(9, 0), tick(3), job(2, urgency=1), machine(7)]
        self.assertEqual(last(*calls, serve()), [1, 1, 7, 0])


if __name__ == "__main__":
    unittest.main()
