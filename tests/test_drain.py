import unittest

from helper import (ask, beat, begins, cancel, drain, ends, job, last, machine, machines, queue,
                    result, serve, state_behind, tick, why)
from labelrunners.house import answers

GREATEST = 4294967295
# Job 5 runs on machine 1 by lease 0, and machine 1 is leaving; machine 2 is free, and unlike it.
LEAVING = [machine(1, 3), machine(2, 4), job(5, 1, tries=2), serve(), drain(1)]


class Ordinary(unittest.TestCase):
    def test_whole_list(self):
        line = [1, 4, 0, 1, 9, 1, 2, 7, 1, 0, 1, 3, 7, 4, 7, 9, 11]
        self.assertEqual(answers(line), [1, 1, 1, 2, 1, 1, 4, 1, 7, 9, 0, 1, 1, 1, 1,
                                         5, 1, 9, 1, 0, 2])

    def test_machine_without_a_job_is_gone_at_once(self):
        calls = [machine(1), machine(2), machine(3), drain(2), machines(), beat(2), drain(2)]
        self.assertEqual(ask(*calls)[3:], [[2], [2, 1, 0, 0, 0, 3, 0, 0, 0], [-2], [-2]])

    def test_last_machine(self):
        self.assertEqual(ask(machine(1), drain(1), machines()), [[1], [0], [0]])

    def test_machine_without_a_job_gets_none(self):
        calls = [machine(1), job(5), drain(1), serve(), why(5), machine(1), serve()]
        self.assertEqual(ask(*calls)[2:], [[0], [0], [0, 0], [1], [1, 5, 1, 0]])

    def test_its_number_may_be_told_anew_with_other_labels(self):
        calls = [machine(1, 1), drain(1), machine(1, 2), machines()]
        self.assertEqual(ask(*calls)[1:], [[0], [1], [1, 1, 2, 0, 0]])

    def test_machine_whose_job_was_over_before(self):
        calls = [machine(1), job(5), serve(), result(0, 1), drain(1), machines()]
        self.assertEqual(ask(*calls)[4:], [[0], [0]])

    def test_machine_whose_job_waits_again(self):
        calls = [machine(1), job(5, tries=2), serve(), result(0, 0), drain(1), machines()]
        self.assertEqual(ask(*calls)[4:], [[0], [0]])

    def test_numbers_at_the_edges(self):
        self.assertEqual(ask(machine(0), machine(GREATEST), drain(GREATEST), drain(0)),
                         [[1], [2], [1], [0]])

    def test_room_for_another_one(self):
        seven = [machine(number) for number in range(7)]
        self.assertEqual(ask(*seven, machine(8), drain(3), machine(8), machine(9))[7:],
                         [[-7], [6], [7], [-7]])


class Leaving(unittest.TestCase):
    def test_it_stays_while_its_job_runs(self):
        self.assertEqual(ask(*LEAVING, machines(), why(5))[4:],
                         [[2], [2, 1, 3, 0, 2, 2, 4, 0, 0], [2, 1, 0]])

    def test_it_is_not_free_and_gets_no_more_jobs(self):
        calls = [*LEAVING, job(6, 1), serve(), why(6), result(0, 1), serve(), why(6)]
        self.assertEqual(ask(*calls)[5:], [[2], [0], [0, 0], [1], [0], [0, 0]])

    def test_jobs_go_to_the_others(self):
        calls = [*LEAVING, job(6), serve(), why(6)]
        self.assertEqual(ask(*calls)[6:], [[1, 6, 2, 1], [2, 2, 1]])

    def test_drained_again(self):
        self.assertEqual(ask(*LEAVING, drain(1), drain(1))[5:], [[-4], [-4]])

    def test_gone_when_its_job_passes(self):
        calls = [*LEAVING, result(0, 1), machines(), drain(1), beat(1), ends()]
        self.assertEqual(ask(*calls)[5:], [[1], [1, 2, 4, 0, 0], [-2], [-2], [1, 5, 1]])

    def test_gone_when_its_job_fails_and_waits_again(self):
        calls = [*LEAVING, result(0, 0), machines(), queue(), serve(), drain(1), result(0, 1)]
        self.assertEqual(ask(*calls)[5:],
                         [[2], [1, 2, 4, 0, 0], [1, 5, 0, 1, 0], [0], [-2], [-5]])

    def test_gone_when_its_job_fails_on_its_last_try(self):
        calls = [machine(1), job(5), serve(), drain(1), result(0, 0), machines(), ends()]
        self.assertEqual(ask(*calls)[3:], [[1], [0], [0], [1, 5, 0]])

    def test_gone_when_its_job_is_called_off(self):
        calls = [*LEAVING, cancel(5), machines(), drain(1), ends()]
        self.assertEqual(ask(*calls)[5:], [[1], [1, 2, 4, 0, 0], [-2], [1, 5, 2]])

    def test_it_stays_when_another_job_stops(self):
        start = [machine(1), machine(2), job(5), job(6, tries=2), serve(), drain(1)]
        for stop in (result(1, 1), result(1, 0), cancel(6)):
            self.assertEqual(last(*start, stop, machines()), [2, 1, 0, 0, 2, 2, 0, 0, 0])

    def test_it_stays_when_a_job_that_waits_is_called_off(self):
        calls = [*LEAVING, job(6, 1), cancel(6), machines()]
        self.assertEqual(last(*calls), [2, 1, 3, 0, 2, 2, 4, 0, 0])

    def test_its_number_is_taken_while_it_stays(self):
        calls = [*LEAVING, machine(1, 0), result(0, 0), machine(1, 1), machines(), serve()]
        self.assertEqual(ask(*calls)[5:], [[-4], [2], [2], [2, 1, 1, 0, 0, 2, 4, 0, 0],
                                           [1, 5, 1, 1]])

    def test_told_anew_it_is_leaving_no_more(self):
        calls = [*LEAVING, cancel(5), machine(1), job(6, urgency=1), job(7), serve(), drain(1),
                 drain(1)]
        self.assertEqual(ask(*calls)[6:], [[2], [1], [2], [2, 6, 1, 1, 7, 2, 2], [2], [-4]])

    def test_it_counts_among_the_seven(self):
        more = [machine(number) for number in range(3, 8)]
        calls = [*LEAVING, *more, machine(8), result(0, 1), machine(8)]
        self.assertEqual(ask(*calls)[9:], [[7], [-7], [1], [7]])

    def test_several(self):
        calls = [machine(1), machine(2), machine(3), job(5), job(6), serve(), drain(2), drain(1),
                 drain(3), machines(), result(0, 1), machines(), result(1, 1), machines()]
        self.assertEqual(ask(*calls)[6:], [[3], [3], [2], [2, 1, 0, 0, 2, 2, 0, 0, 2], [1],
                                           [1, 2, 0, 0, 2], [1], [0]])


class Heard(unittest.TestCase):
    def test_it_still_hears_beats(self):
        calls = [*LEAVING, tick(5), beat(1), beat(2), tick(5), machines(), result(0, 1)]
        self.assertEqual(ask(*calls)[5:], [[0], [0], [0], [0], [2, 1, 3, 5, 2, 2, 4, 5, 0], [1]])

    def test_to_be_drained_is_no_beat(self):
        calls = [machine(1), job(5), serve(), tick(5), drain(1), machines(), drain(1), tick(1)]
        self.assertEqual(ask(*calls)[4:], [[1], [1, 1, 0, 5, 2], [-4], [1, 1, 5]])

    def test_lost_by_a_tick(self):
        calls = [*LEAVING, tick(6), machines(), queue(), result(0, 1), beat(1), drain(1)]
        self.assertEqual(ask(*calls)[5:],
                         [[2, 1, 2, 5], [0], [1, 5, 0, 2, 1], [-5], [-2], [-2]])

    def test_lost_by_a_tick_it_may_come_again(self):
        calls = [*LEAVING, tick(6), machine(1, 1), machines(), serve(), result(1, 1), machines()]
        self.assertEqual(ask(*calls)[6:], [[1], [1, 1, 1, 0, 0], [1, 5, 1, 1], [1],
                                           [1, 1, 1, 0, 0]])

    def test_gone_it_is_not_lost(self):
        self.assertEqual(last(machine(1), machine(2), drain(1), tick(6)), [1, 2])
        self.assertEqual(last(*LEAVING, result(0, 1), tick(6)), [1, 2])


class Refused(unittest.TestCase):
    def test_no_such_machine(self):
        self.assertEqual(answers([7, 0]), [1, -2])
        self.assertEqual(ask(machine(1), drain(0), drain(2), drain(GREATEST), drain(1)),
                         [[1], [-2], [-2], [-2], [0]])

    def test_lost_machine(self):
        self.assertEqual(last(machine(1), tick(6), drain(1)), [-2])

    def test_a_job_is_no_machine(self):
        self.assertEqual(last(machine(1), job(5), serve(), drain(5)), [-2])

    def test_no_machines_behind_begins(self):
        self.assertEqual(last(machine(1), begins(5, 10), drain(1)), [-2])
        self.assertEqual(last(*LEAVING, begins(5, 10), drain(1)), [-2])

    def test_all_is_as_it_was(self):
        before = [*LEAVING, job(6, 4), job(7, 8), tick(3)]
        for refused, answer in ((drain(1), -4), (drain(3), -2), (drain(5), -2)):
            self.assertEqual(last(*before, refused), [answer])
            self.assertEqual(state_behind(*before, refused), state_behind(*before))


if __name__ == "__main__":
    unittest.main()
