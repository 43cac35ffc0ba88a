import unittest

from helper import ask, beat, begins, job, last, machine, queue, result, serve, tick
from labelrunners.house import answers

MOST = 1000000
GREATEST = 4294967295


class Ordinary(unittest.TestCase):
    def test_whole_list(self):
        line = [1, 4, 0, 1, 2, 0, 2, 9, 0, 0, 1, 3, 6, 5, 6, 1]
        self.assertEqual(answers(line), [1, 1, 1, 2, 1, 1, 4, 1, 9, 2, 0, 1, 0, 4, 2, 2, 4, 9])

    def test_no_machines(self):
        self.assertEqual(answers([6, 1]), [1, 0])

    def test_lost_machine_is_gone(self):
        calls = [machine(1), tick(6), job(5), serve(), beat(1), tick(6), machine(1)]
        self.assertEqual(ask(*calls)[1:], [[1, 1], [1], [0], [-2], [0], [1]])


class Lost(unittest.TestCase):
    def test_as_long_ago_as_a_lease_lasts_and_longer(self):
        for lease in (1, 2, 5, 999999):
            self.assertEqual(ask(begins(lease, 10), machine(1), tick(lease), tick(1))[2:],
                             [[0], [1, 1]])
            self.assertEqual(last(begins(lease, 10), machine(1), tick(lease + 1)), [1, 1])

    def test_longest_lease(self):
        self.assertEqual(last(begins(MOST, 10), machine(1), tick(MOST)), [0])

    def test_each_by_when_it_was_heard_of(self):
        calls = [machine(1), tick(1), machine(2), tick(1), machine(3), beat(1), tick(5), tick(1)]
        self.assertEqual(ask(*calls)[-2:], [[1, 2], [2, 1, 3]])

    def test_machines_by_number(self):
        calls = [machine(30), machine(4), machine(GREATEST), machine(0), tick(6)]
        self.assertEqual(last(*calls), [4, 0, 4, 30, GREATEST])

    def test_jobs_in_the_order_in_which_they_came(self):
        # The last that came is the most urgent, and so runs on the machine of the lowest number.
        calls = [machine(1), machine(2), machine(3), job(8, urgency=1), job(9, urgency=2),
                 job(7, urgency=3), serve(), tick(6)]
        self.assertEqual(ask(*calls)[-2:], [[3, 7, 1, 0, 9, 2, 1, 8, 3, 2],
                                            [3, 1, 2, 3, 8, 9, 7]])

    def test_only_jobs_on_lost_machines(self):
        calls = [machine(1), machine(2), machine(3), job(8), job(9), serve(), tick(5), beat(1),
                 tick(1), result(0, 1), result(1, 1)]
        self.assertEqual(ask(*calls)[-3:], [[2, 2, 3, 9], [1], [-5]])

    def test_job_that_waits_is_not_told(self):
        self.assertEqual(last(machine(1, 0), job(5, 1), serve(), tick(6)), [1, 1])

    def test_machine_whose_job_is_over(self):
        self.assertEqual(last(machine(1), job(5), serve(), result(0, 1), tick(6)), [1, 1])

    def test_job_waits_again(self):
        calls = [machine(1), job(5), serve(), tick(6), machine(2), serve(), result(1, 1)]
        self.assertEqual(ask(*calls)[3:], [[1, 1, 5], [1], [1, 5, 2, 1], [1]])

    def test_as_many_tries_as_it_had(self):
        calls = [machine(1), job(5, tries=2), serve(), tick(6), machine(1), serve(), tick(6),
                 machine(1), serve(), result(2, 0), serve(), tick(6), machine(1), serve(),
                 result(4, 0)]
        self.assertEqual(ask(*calls)[8:], [[1, 5, 1, 2], [2], [1, 5, 1, 3], [1, 1, 5], [1],
                                           [1, 5, 1, 4], [0]])

    def test_job_keeps_its_place_in_the_queue(self):
        calls = [machine(1), job(5), job(6), serve(), tick(6), machine(1), serve()]
        self.assertEqual(last(*calls), [1, 5, 1, 1])

    def test_job_keeps_the_time_at_which_it_came(self):
        calls = [machine(1), job(5), serve(), tick(10), job(6, urgency=1), machine(1), serve()]
        self.assertEqual(last(*calls), [1, 5, 1, 1])

    def test_lost_once_more(self):
        calls = [job(5), queue()] + [machine(1), serve(), tick(6), queue()] * 2
        self.assertEqual(ask(*calls)[1::4], [[1, 5, 0, 1, 0], [1, 5, 0, 1, 1], [1, 5, 1, 1, 2]])

    def test_result_for_a_job_whose_machine_was_lost(self):
        for passed in (0, 1, 2):
            calls = [machine(1), job(5), serve(), tick(6), result(0, passed)]
            self.assertEqual(last(*calls), [-5])

    def test_result_when_the_machine_is_back(self):
        calls = [machine(1), job(5, tries=2), serve(), tick(6), machine(1), result(0, 0), serve(),
                 result(0, 1), result(1, 0), result(1, 1)]
        self.assertEqual(ask(*calls)[5:], [[-5], [1, 5, 1, 1], [-5], [2], [-5]])

    def test_job_may_run_elsewhere_while_its_first_machine_is_back(self):
        calls = [machine(1), job(5), serve(), tick(6), machine(0), serve(), machine(1), job(6),
                 serve(), result(0, 1), result(2, 1), result(1, 1)]
        self.assertEqual(ask(*calls)[5:], [[1, 5, 0, 1], [2], [2], [1, 6, 1, 2], [-5], [1], [1]])


class Refused(unittest.TestCase):
    def test_no_minute(self):
        self.assertEqual(ask(tick(0), tick(1)), [[-1], [0]])

    def test_minute_1000000_and_the_one_above(self):
        self.assertEqual(ask(tick(MOST)), [[0]])
        self.assertEqual(ask(tick(MOST + 1)), [[-1]])
        self.assertEqual(ask(tick(GREATEST)), [[-1]])
        self.assertEqual(ask(tick(MOST - 1), tick(2), tick(1), tick(1), tick(0)),
                         [[0], [-1], [0], [-1], [-1]])

    def test_all_is_as_it_was(self):
        for refused in (tick(0), tick(MOST + 1), tick(MOST - 4), tick(GREATEST)):
            calls = [machine(1), job(5), serve(), tick(5), refused, beat(1), tick(5), tick(1)]
            self.assertEqual(ask(*calls)[3:], [[0], [-1], [0], [0], [1, 1, 5]])

    def test_minute_is_as_it_was(self):
        calls = [job(5), tick(9), tick(MOST), tick(0), job(6, urgency=1), machine(1), serve()]
        self.assertEqual(last(*calls), [1, 6, 1, 0])


if __name__ == "__main__":
    unittest.main()
