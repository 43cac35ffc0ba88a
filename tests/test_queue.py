import unittest

from helper import (ask, begins, cancel, drain, job, last, machine, queue, result, serve,
                    state_behind, tick)
from labelrunners.house import answers

MOST = 1000000
GREATEST = 4294967295


class Ordinary(unittest.TestCase):
    def test_whole_list(self):
        line = [2, 5, 3, 1, 2, 2, 6, 0, 4, 9, 10]
        self.assertEqual(answers(line), [1, 1, 1, 2, 9, 2, 6, 4, 9, 0, 5, 1, 2, 0])

    def test_no_job(self):
        self.assertEqual(answers([10]), [1, 0])

    def test_jobs_that_run_or_are_over_are_not_told(self):
        calls = [machine(1), machine(2), job(5), job(6), job(7), job(8), serve(), result(0, 1),
                 cancel(7), queue()]
        self.assertEqual(last(*calls), [1, 8, 0, 1, 0])

    def test_all_run(self):
        self.assertEqual(last(machine(1), job(5), serve(), queue()), [0])

    def test_jobs_that_no_machine_suits_are_told(self):
        self.assertEqual(last(machine(1), job(5, 65535), serve(), queue()), [1, 5, 0, 1, 0])

    def test_greatest_numbers(self):
        self.assertEqual(last(job(GREATEST, 65535, MOST, MOST), queue()), [1, GREATEST, MOST, MOST, 0])

    def test_fourteen(self):
        calls = [job(number) for number in range(14)] + [job(14), queue()]
        self.assertEqual(last(*calls),
                         [14] + [part for number in range(14) for part in (number, 0, 1, 0)])

    def test_empty_behind_begins(self):
        self.assertEqual(last(job(5), begins(5, 10), queue()), [0])

    def test_nothing_is_changed(self):
        before = [machine(1), job(5), job(6), serve(), tick(3), drain(1)]
        self.assertEqual(state_behind(*before, queue()), state_behind(*before))


class Order(unittest.TestCase):
    def test_more_urgent_first(self):
        calls = [job(1, urgency=1), job(2, urgency=3), job(3, urgency=2), queue()]
        self.assertEqual(last(*calls), [3, 2, 3, 1, 0, 3, 2, 1, 0, 1, 1, 1, 0])

    def test_as_urgent_as_they_came(self):
        calls = [job(9, urgency=2), job(4, urgency=2), job(6, urgency=2), queue()]
        self.assertEqual(last(*calls), [3, 9, 2, 1, 0, 4, 2, 1, 0, 6, 2, 1, 0])

    def test_by_urgency_now(self):
        start = [job(1), tick(3), job(2, urgency=1)]
        self.assertEqual(last(*start, tick(6), queue()), [2, 2, 1, 1, 0, 1, 0, 1, 0])
        self.assertEqual(last(*start, tick(7), queue()), [2, 1, 1, 1, 0, 2, 1, 1, 0])
        self.assertEqual(last(*start, tick(9), queue()), [2, 1, 1, 1, 0, 2, 1, 1, 0])
        self.assertEqual(last(*start, tick(10), queue()), [2, 2, 2, 1, 0, 1, 1, 1, 0])

    def test_failed_job_as_it_came(self):
        calls = [machine(1), job(9, tries=2), job(4), serve(), result(0, 0), queue()]
        self.assertEqual(last(*calls), [2, 9, 0, 1, 0, 4, 0, 1, 0])

    def test_lost_job_as_it_came(self):
        calls = [machine(1), job(9, tries=2), job(4), serve(), tick(6), queue()]
        self.assertEqual(last(*calls), [2, 9, 0, 2, 1, 4, 0, 1, 0])


class UrgencyNow(unittest.TestCase):
    def test_each_whole_age(self):
        for minutes, grown in ((1, 0), (9, 0), (10, 1), (11, 1), (19, 1), (20, 2), (MOST, 100000)):
            self.assertEqual(last(job(5, urgency=7), tick(minutes), queue()), [1, 5, 7 + grown, 1, 0])

    def test_age_is_set_by_begins(self):
        for minutes, grown in ((2, 0), (3, 1), (5, 1), (6, 2)):
            self.assertEqual(last(begins(5, 3), job(5), tick(minutes), queue()), [1, 5, grown, 1, 0])

    def test_ages_of_1_and_of_1000000(self):
        self.assertEqual(last(begins(5, 1), job(5, urgency=MOST), tick(MOST), queue()),
                         [1, 5, 2 * MOST, 1, 0])
        self.assertEqual(ask(begins(5, MOST), job(5), tick(MOST - 1), queue(), tick(1), queue())[3::2],
                         [[1, 5, 0, 1, 0], [1, 5, 1, 1, 0]])

    def test_since_it_came(self):
        self.assertEqual(last(tick(7), job(5), tick(9), queue()), [1, 5, 0, 1, 0])
        self.assertEqual(last(tick(7), job(5), tick(10), queue()), [1, 5, 1, 1, 0])

    def test_it_grows_while_it_runs(self):
        calls = [begins(50, 10), machine(1), job(5, tries=2), serve(), tick(20), result(0, 0), queue()]
        self.assertEqual(last(*calls), [1, 5, 2, 1, 0])


class Tries(unittest.TestCase):
    def test_one_less_behind_a_failed_result(self):
        calls = [machine(1), job(5, tries=4)]
        for lease in range(3):
            calls += [serve(), result(lease, 0), queue()]
        self.assertEqual(ask(*calls)[4::3], [[1, 5, 0, 3, 0], [1, 5, 0, 2, 0], [1, 5, 0, 1, 0]])

    def test_over_on_its_last_try(self):
        self.assertEqual(last(machine(1), job(5), serve(), result(0, 0), queue()), [0])

    def test_as_many_when_its_machine_is_lost(self):
        self.assertEqual(last(machine(1), job(5, tries=4), serve(), tick(6), queue()), [1, 5, 0, 4, 1])


class TimesLost(unittest.TestCase):
    def test_once_more_each_time(self):
        calls = [job(5, tries=4)] + [machine(1), serve(), tick(6), queue()] * 3
        self.assertEqual(ask(*calls)[4::4], [[1, 5, 0, 4, 1], [1, 5, 1, 4, 2], [1, 5, 1, 4, 3]])

    def test_kept_behind_a_failed_result(self):
        calls = [machine(1), job(5, tries=2), serve(), tick(6), machine(1), serve(), result(1, 0),
                 queue()]
        self.assertEqual(last(*calls), [1, 5, 0, 1, 1])

    def test_of_each_by_itself(self):
        calls = [machine(1), machine(2), job(5), job(6), job(7), serve(), tick(6), machine(1),
                 serve(), tick(6), queue()]
        self.assertEqual(last(*calls), [3, 5, 1, 1, 2, 6, 1, 1, 1, 7, 1, 1, 0])

    def test_not_when_it_waits(self):
        self.assertEqual(last(machine(1, 1), job(5, 2), serve(), tick(6), queue()), [1, 5, 0, 1, 0])

    def test_with_a_machine_that_is_leaving(self):
        self.assertEqual(last(machine(1), job(5), serve(), drain(1), tick(6), queue()),
                         [1, 5, 0, 1, 1])


if __name__ == "__main__":
    unittest.main()
