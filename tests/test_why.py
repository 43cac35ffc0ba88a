import unittest

from helper import (ask, begins, cancel, drain, job, last, machine, queue, result, serve,
                    state_behind, tick, why)
from labelrunners.house import answers

GREATEST = 4294967295
# Machine 1 alone suits job 10; so job 11 makes room for it and is placed on machine 2, and job 12
# for that one, on machine 3. Job 14 is placed on machine 4, which suits none of the others.
CHAIN = [machine(1, 1 + 2), machine(2, 2 + 4), machine(3, 4), machine(4, 8),
         job(10, 1, urgency=9), job(11, 2, urgency=8), job(12, 4, urgency=7), job(14, 8, urgency=6)]


class Ordinary(unittest.TestCase):
    def test_whole_list(self):
        line = [1, 1, 1, 2, 5, 1, 0, 1, 2, 6, 1, 2, 1, 9, 5, 9, 6, 3, 9, 5, 9, 6]
        self.assertEqual(answers(line), [1, 1, 1, 1, 1, 2, 3, 0, 1, 6, 2, 1, 1,
                                         4, 1, 6, 1, 0, 2, 0, 0, 3, 2, 1, 0])

    def test_job_that_runs(self):
        calls = [machine(3), machine(8), job(5), job(6), serve(), why(6), why(5)]
        self.assertEqual(ask(*calls)[5:], [[2, 8, 1], [2, 3, 0]])

    def test_job_that_runs_by_a_later_lease(self):
        calls = [machine(3), job(5, tries=2), serve(), result(0, 0), why(5), serve(), why(5)]
        self.assertEqual(ask(*calls)[4:], [[1, 3], [1, 5, 3, 1], [2, 3, 1]])

    def test_job_that_runs_on_a_machine_that_is_leaving(self):
        self.assertEqual(last(machine(3), job(5), serve(), drain(3), why(5)), [2, 3, 0])

    def test_job_whose_machine_was_lost(self):
        calls = [machine(3), job(5), serve(), tick(6), why(5), machine(4), why(5)]
        self.assertEqual(ask(*calls)[4:], [[0, 0], [1], [1, 4]])

    def test_numbers_at_the_edges(self):
        calls = [machine(0), job(0), job(GREATEST), why(0), why(GREATEST), serve(), why(0)]
        self.assertEqual(ask(*calls)[3:], [[1, 0], [0, 1, 0], [1, 0, 0, 0], [2, 0, 0]])

    def test_job_that_is_chosen_now(self):
        calls = [machine(4), machine(2), job(5), job(6, urgency=1), why(5), why(6)]
        self.assertEqual(ask(*calls)[4:], [[1, 4], [1, 2]])

    def test_as_serve_would_place_it(self):
        # Job 5 makes room for job 6, which machine 1 alone suits.
        start = [machine(1, 3), machine(2, 1), job(5, 1, urgency=9), job(6, 2)]
        self.assertEqual(ask(*start, why(5), why(6), serve())[4:],
                         [[1, 2], [1, 1], [2, 5, 2, 0, 6, 1, 1]])

    def test_chosen_and_running_alike_in_number(self):
        self.assertEqual(ask(machine(1), job(1), why(1), serve(), why(1))[2:],
                         [[1, 1], [1, 1, 1, 0], [2, 1, 0]])


class NoFreeMachine(unittest.TestCase):
    def test_no_machine_at_all(self):
        self.assertEqual(ask(job(5), why(5)), [[1], [0, 0]])

    def test_none_that_suits(self):
        self.assertEqual(last(machine(1, 6), job(5, 1), why(5)), [0, 0])
        self.assertEqual(last(machine(1, 6), job(5, 7), job(6, 2), why(5)), [0, 0])

    def test_those_that_suit_are_busy(self):
        calls = [machine(1, 1), machine(2, 2), job(5, 1), serve(), job(6, 1), job(7, 2), why(6)]
        self.assertEqual(last(*calls), [0, 0])

    def test_those_that_suit_are_leaving_or_gone(self):
        calls = [machine(1, 1), machine(2, 1), job(5, 1), serve(), drain(1), drain(2), job(6, 1),
                 why(6), result(0, 1), why(6)]
        self.assertEqual(ask(*calls)[7:], [[0, 0], [1], [0, 0]])

    def test_jobs_that_run_are_no_rivals(self):
        calls = [machine(1), machine(2), job(5), serve(), job(6), job(7), why(7)]
        self.assertEqual(last(*calls), [0, 1, 6])


class Rivals(unittest.TestCase):
    def test_one(self):
        self.assertEqual(last(machine(1), job(5), job(6), why(6)), [0, 1, 5])

    def test_straight_ones_in_the_order_in_which_they_are_chosen(self):
        start = [machine(number) for number in range(4, 1, -1)]
        start += [job(5, urgency=2), job(6, urgency=4), job(7, urgency=3), job(8)]
        self.assertEqual(last(*start, why(8)), [0, 3, 6, 7, 5])

    def test_as_urgent_ones_in_the_order_in_which_they_came(self):
        calls = [machine(1), machine(2), machine(3), job(9), job(4), job(6), job(2), why(2)]
        self.assertEqual(last(*calls), [0, 3, 9, 4, 6])

    def test_order_by_urgency_now(self):
        # Job 5 has aged by two, and is chosen ahead of job 6.
        calls = [begins(50, 3), machine(1), machine(2), job(5), tick(6), job(6, urgency=1), job(7),
                 queue(), why(7)]
        self.assertEqual(ask(*calls)[7:], [[3, 5, 2, 1, 0, 6, 1, 1, 0, 7, 0, 1, 0], [0, 2, 5, 6]])

    def test_by_urgency_now_another_one_waits(self):
        start = [machine(1), job(5), tick(5), job(6, urgency=1)]
        self.assertEqual(ask(*start, why(5), why(6))[4:], [[0, 1, 6], [1, 1]])
        start = [begins(50, 10), machine(1), job(5), tick(10), job(6, urgency=1)]
        self.assertEqual(ask(*start, why(5), why(6))[5:], [[1, 1], [0, 1, 5]])

    def test_only_those_on_machines_that_suit(self):
        calls = [machine(1, 1), machine(2, 2), job(5, 1), job(6, 2), job(7, 1), job(8, 2), job(9, 3),
                 why(7), why(8), why(9)]
        self.assertEqual(ask(*calls)[7:], [[0, 1, 5], [0, 1, 6], [0, 0]])

    def test_over_one_step(self):
        # Machine 1 alone has label 0, but job 5, which is placed there, would do with machine 2.
        calls = [machine(1, 3), machine(2, 2), job(5, 2, urgency=9), job(6, 2, urgency=8), job(7, 1),
                 why(7)]
        self.assertEqual(last(*calls), [0, 2, 5, 6])

    def test_no_other_machine_suits_the_rival(self):
        calls = [*CHAIN, job(13, 1), why(13)]
        self.assertEqual(last(*calls), [0, 1, 10])

    def test_over_several_steps(self):
        # Job 10 is on machine 1, 11 on 2, 12 on 3; each would do with its neighbour's machine.
        start = [machine(1, 1 + 2), machine(2, 2 + 4), machine(3, 4), machine(4, 8),
                 job(12, 4, urgency=5), job(11, 4, urgency=6), job(10, 2, urgency=7),
                 job(14, 8, urgency=9), job(13, 1)]
        self.assertEqual(ask(*start, why(10), why(11), why(12), why(14))[9:],
                         [[1, 1], [1, 2], [1, 3], [1, 4]])
        self.assertEqual(last(*start, why(13)), [0, 3, 10, 11, 12])

    def test_steps_against_the_order_in_which_they_are_chosen(self):
        # Job 13 reaches job 12 at first, from there 11, from there 10; 10 is chosen first.
        start = [machine(5, 1 + 2), machine(6, 2 + 4), machine(7, 4 + 16), machine(4, 8),
                 job(10, 16, urgency=7), job(11, 4, urgency=6), job(12, 2, urgency=5),
                 job(14, 8, urgency=9), job(13, 1)]
        self.assertEqual(ask(*start, why(10), why(11), why(12))[9:], [[1, 7], [1, 6], [1, 5]])
        self.assertEqual(last(*start, why(13)), [0, 3, 10, 11, 12])

    def test_over_six_steps(self):
        start = [machine(k, (1 << k) + (2 << k)) for k in range(7)]
        start += [job(20 + k, 2 << k, urgency=k) for k in range(7)]
        start += [job(30, 1)]
        self.assertEqual(last(*start, why(30)), [0, 7, 26, 25, 24, 23, 22, 21, 20])

    def test_free_machines_that_suit_a_rival_count(self):
        # Job 7 asks label 0; machines 1 and 2 suit its rival 5, machine 3 suits neither.
        calls = [machine(1, 3), machine(2, 2), machine(3, 4), job(5, 2, urgency=9),
                 job(6, 2, urgency=8), job(8, 4, urgency=7), job(7, 1), why(7)]
        self.assertEqual(last(*calls), [0, 2, 5, 6])

    def test_busy_machines_that_suit_do_not_count(self):
        calls = [machine(1), job(5), serve(), machine(2), machine(3), job(6), job(7), job(8), why(8)]
        self.assertEqual(last(*calls), [0, 2, 6, 7])

    def test_leaving_machines_that_suit_do_not_count(self):
        calls = [machine(1), job(5), serve(), drain(1), machine(2), machine(3), job(6), job(7),
                 job(8), why(8), drain(2), why(7)]
        self.assertEqual(ask(*calls)[9:], [[0, 2, 6, 7], [2], [0, 1, 6]])

    def test_jobs_that_wait_themselves_are_no_rivals(self):
        calls = [machine(1), job(5, urgency=9), job(6, urgency=8), job(7), why(7), cancel(5), why(7)]
        self.assertEqual(ask(*calls)[4:], [[0, 1, 5], [0], [0, 1, 6]])

    def test_chosen_behind_it_and_no_rival(self):
        calls = [machine(1, 1), machine(2, 2), job(5, 1, urgency=9), job(6, 1, urgency=8), job(7, 2),
                 why(6), why(7)]
        self.assertEqual(ask(*calls)[5:], [[0, 1, 5], [1, 2]])

    def test_seven_of_fourteen(self):
        start = [machine(number) for number in range(7)]
        start += [job(20 + number) for number in range(14)]
        for number in range(27, 34):
            self.assertEqual(last(*start, why(number)), [0, 7, 20, 21, 22, 23, 24, 25, 26])


class NothingIsChanged(unittest.TestCase):
    def test_by_asking(self):
        before = [*CHAIN, job(13, 1), job(3, 16), serve(), result(0, 1), job(15, 1), job(2, 3),
                  tick(2)]
        for number in (2, 3, 10, 11, 12, 13, 14, 15):
            self.assertEqual(state_behind(*before, why(number)), state_behind(*before))

    def test_leases_are_not_numbered_on(self):
        calls = [machine(1), job(5), why(5), why(5), serve(), why(5), result(0, 1), job(6), serve()]
        self.assertEqual(ask(*calls)[2:], [[1, 1], [1, 1], [1, 5, 1, 0], [2, 1, 0], [1], [1],
                                           [1, 6, 1, 1]])


class Refused(unittest.TestCase):
    def test_no_such_job(self):
        self.assertEqual(answers([9, 0]), [1, -2])
        self.assertEqual(ask(job(5), why(4), why(0), why(GREATEST))[1:], [[-2], [-2], [-2]])

    def test_job_that_is_over(self):
        for passed in (0, 1):
            self.assertEqual(last(machine(1), job(5), serve(), result(0, passed), why(5)), [-2])
        self.assertEqual(last(job(5), cancel(5), why(5)), [-2])
        self.assertEqual(last(machine(1), job(5), serve(), cancel(5), why(5)), [-2])

    def test_job_that_was_refused(self):
        self.assertEqual(last(job(5, tries=0), why(5)), [-2])

    def test_a_machine_is_no_job(self):
        self.assertEqual(last(machine(1), why(1)), [-2])

    def test_no_jobs_behind_begins(self):
        self.assertEqual(last(job(5), begins(5, 10), why(5)), [-2])

    def test_all_is_as_it_was(self):
        before = [*CHAIN, job(13, 1), serve(), result(0, 1), cancel(12), tick(2)]
        for number in (1, 4, 10, 12, 16, GREATEST):
            self.assertEqual(state_behind(*before, why(number)), state_behind(*before))


if __name__ == "__main__":
    unittest.main()
