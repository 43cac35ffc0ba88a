import unittest

from helper import ask, begins, job, last, machine, result, serve, tick
from labelrunners.house import answers

MOST = 1000000
GREATEST = 4294967295
FOURTEEN = [job(number) for number in range(1, 15)]


def jobs_over(how_many):
    """Calls at whose end so many jobs, numbered from 100, have passed and machine 1 is free."""
    calls = [machine(1)]
    for k in range(how_many):
        calls += [job(100 + k), serve(), result(k, 1)]
    return calls


class Ordinary(unittest.TestCase):
    def test_whole_list(self):
        self.assertEqual(answers([2, 5, 3, 7, 2, 2, 4, 0, 0, 1]), [1, 1, 1, 2])

    def test_jobs_that_run_are_here(self):
        self.assertEqual(last(machine(1), job(5), serve(), job(6)), [2])

    def test_jobs_that_are_over_are_not_here(self):
        self.assertEqual(last(machine(1), job(5), serve(), result(0, 1), job(6)), [1])

    def test_it_waits(self):
        self.assertEqual(last(machine(1), job(5), serve()), [1, 5, 1, 0])


class Refused(unittest.TestCase):
    def test_labels_edges(self):
        self.assertEqual(ask(job(1, labels=65535), job(2, labels=65536), job(3, labels=GREATEST)),
                         [[1], [-1], [-1]])

    def test_urgency_edges(self):
        self.assertEqual(ask(job(1, urgency=0), job(2, urgency=1), job(3, urgency=MOST),
                             job(4, urgency=MOST + 1), job(5, urgency=GREATEST)),
                         [[1], [2], [3], [-1], [-1]])

    def test_tries_edges(self):
        self.assertEqual(ask(job(1, tries=0), job(2, tries=1), job(3, tries=MOST),
                             job(4, tries=MOST + 1), job(5, tries=GREATEST)),
                         [[-1], [1], [2], [-1], [-1]])

    def test_number_of_a_job_that_waits(self):
        self.assertEqual(last(job(5), job(5)), [-4])

    def test_number_of_a_job_that_runs(self):
        self.assertEqual(last(machine(1), job(5), serve(), job(5)), [-4])

    def test_number_of_a_job_that_passed(self):
        self.assertEqual(last(machine(1), job(5), serve(), result(0, 1), job(5)), [-4])

    def test_number_of_a_job_that_failed(self):
        self.assertEqual(last(machine(1), job(5), serve(), result(0, 0), job(5)), [-4])

    def test_a_machines_number_is_no_jobs_number(self):
        self.assertEqual(last(machine(5), job(5)), [1])

    def test_fourteenth_and_fifteenth_here(self):
        self.assertEqual(ask(*FOURTEEN, job(15)), [[k] for k in range(1, 15)] + [[-7]])

    def test_jobs_that_run_count_among_the_fourteen(self):
        self.assertEqual(last(machine(1), *FOURTEEN, serve(), job(15)), [-7])

    def test_room_again_when_one_is_over(self):
        calls = [machine(1), *FOURTEEN, serve(), result(0, 1), job(15), job(16)]
        self.assertEqual(ask(*calls)[-2:], [[14], [-7]])

    # No line of 60 calls gets to 40 jobs, as all but 14 of them need a call of their own to be
    # over; so the lists of these two tests are longer.
    def test_fortieth_and_forty_first_in_all(self):
        self.assertEqual(ask(*jobs_over(39), job(1), job(2))[-2:], [[1], [-7]])
        self.assertEqual(ask(*jobs_over(40), job(1))[-1], [-7])

    def test_those_here_and_those_over_are_the_forty(self):
        here = [job(number) for number in range(1, 14)]
        told = ask(*jobs_over(27), *here, job(14))
        self.assertEqual(told[-2:], [[13], [-7]])
        self.assertEqual(last(*jobs_over(27), *here, serve(), result(27, 1), job(14)), [-7])

    def test_refused_jobs_are_not_among_the_forty(self):
        refused = [job(1, tries=0), job(100)]
        self.assertEqual(ask(*jobs_over(39), *refused, job(1), job(2))[-4:],
                         [[-1], [-4], [1], [-7]])

    def test_the_forty_begin_again_behind_begins(self):
        self.assertEqual(last(*jobs_over(40), begins(5, 10), job(1)), [1])

    def test_the_one_told_first(self):
        for wrong in (job(14, labels=65536), job(14, urgency=MOST + 1), job(14, tries=0),
                      job(14, tries=MOST + 1), job(15, tries=0)):
            self.assertEqual(last(*FOURTEEN, wrong), [-1])
        self.assertEqual(last(*FOURTEEN, job(14)), [-4])
        self.assertEqual(last(*jobs_over(40), job(139)), [-4])
        self.assertEqual(last(*jobs_over(40), job(139, tries=0)), [-1])

    def test_all_is_as_it_was(self):
        before = [machine(1, 1), job(5, labels=1, urgency=3, tries=2), job(6, labels=1, urgency=4)]
        for refused, answer in ((job(7, labels=65536), -1), (job(7, tries=0), -1),
                                (job(5, labels=0, urgency=9, tries=1), -4)):
            told = ask(*before, refused, serve(), result(0, 1), serve(), result(1, 0), job(7))
            self.assertEqual(told[3:], [[answer], [1, 6, 1, 0], [1], [1, 5, 1, 1], [2], [2]])

    def test_all_is_as_it_was_when_14_are_here(self):
        told = ask(*FOURTEEN, job(15, urgency=9), machine(1), serve(), result(0, 1), job(15))
        self.assertEqual(told[14:], [[-7], [1], [1, 1, 1, 0], [1], [14]])

    def test_time_at_which_it_came_is_as_it_was(self):
        calls = [job(5), tick(10), job(5), job(6, urgency=1), machine(1), serve()]
        self.assertEqual(last(*calls), [1, 5, 1, 0])


if __name__ == "__main__":
    unittest.main()
