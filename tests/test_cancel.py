import unittest

from helper import (ask, begins, cancel, drain, ends, job, last, machine, machines, queue, result,
                    serve, state_behind, tick, why)
from labelrunners.house import answers

GREATEST = 4294967295
FOURTEEN = [job(number) for number in range(1, 15)]


class Ordinary(unittest.TestCase):
    def test_whole_list(self):
        line = [1, 1, 0, 2, 5, 0, 0, 1, 2, 6, 0, 0, 1, 3, 8, 6, 8, 5, 12]
        self.assertEqual(answers(line), [1, 1, 1, 1, 1, 2, 4, 1, 5, 1, 0, 1, 0, 1, 1,
                                         5, 2, 6, 2, 5, 2])

    def test_job_that_waits(self):
        calls = [job(5), job(6), cancel(5), queue(), machine(1), serve()]
        self.assertEqual(ask(*calls)[2:], [[0], [1, 6, 0, 1, 0], [1], [1, 6, 1, 0]])

    def test_job_that_runs(self):
        calls = [machine(1), job(5), serve(), cancel(5), queue(), ends()]
        self.assertEqual(ask(*calls)[3:], [[1], [0], [1, 5, 2]])

    def test_its_machine_is_free_again(self):
        calls = [machine(1), job(5), job(6), serve(), machines(), cancel(5), machines(), why(6),
                 serve()]
        self.assertEqual(ask(*calls)[4:], [[1, 1, 0, 0, 1], [1], [1, 1, 0, 0, 0], [1, 1],
                                           [1, 6, 1, 1]])

    def test_only_its_own_machine(self):
        calls = [machine(1), machine(2), job(5), job(6), serve(), cancel(6), machines(), why(5)]
        self.assertEqual(ask(*calls)[5:], [[1], [2, 1, 0, 0, 1, 2, 0, 0, 0], [2, 1, 0]])

    def test_to_be_called_off_is_no_beat(self):
        calls = [machine(1), job(5), serve(), tick(5), cancel(5), machines(), tick(1)]
        self.assertEqual(ask(*calls)[4:], [[1], [1, 1, 0, 5, 0], [1, 1]])

    def test_result_by_its_lease(self):
        for passed in (0, 1, GREATEST):
            calls = [machine(1), job(5, tries=3), serve(), cancel(5), result(0, passed), ends()]
            self.assertEqual(ask(*calls)[3:], [[1], [-5], [1, 5, 2]])

    def test_result_by_its_lease_when_its_machine_has_another_job(self):
        calls = [machine(1), job(5), job(6), serve(), cancel(5), serve(), result(0, 1),
                 result(1, 0), ends()]
        self.assertEqual(ask(*calls)[5:], [[1, 6, 1, 1], [-5], [0], [2, 5, 2, 6, 0]])

    def test_its_number_stays_taken(self):
        self.assertEqual(ask(job(5), cancel(5), job(5), job(6))[1:], [[0], [-4], [1]])
        self.assertEqual(ask(machine(1), job(5), serve(), cancel(5), job(5), job(6))[3:],
                         [[1], [-4], [1]])

    def test_its_number_is_free_behind_begins(self):
        self.assertEqual(last(job(5), cancel(5), begins(5, 10), job(5)), [1])

    def test_job_that_waits_again(self):
        calls = [machine(1), job(5, tries=2), serve(), result(0, 0), cancel(5), ends()]
        self.assertEqual(ask(*calls)[4:], [[0], [1, 5, 2]])
        calls = [machine(1), job(5), serve(), tick(6), cancel(5), ends()]
        self.assertEqual(ask(*calls)[4:], [[0], [1, 5, 2]])

    def test_called_off_it_is_not_lost_with_its_machine(self):
        self.assertEqual(last(machine(1), job(5), serve(), cancel(5), tick(6)), [1, 1])

    def test_numbers_at_the_edges(self):
        self.assertEqual(ask(job(0), job(GREATEST), cancel(GREATEST), cancel(0), ends())[2:],
                         [[0], [0], [2, GREATEST, 2, 0, 2]])

    def test_lease_0_is_a_lease(self):
        self.assertEqual(last(machine(0), job(0), serve(), cancel(0)), [1])

    def test_leases_are_numbered_on(self):
        calls = [machine(1), job(5), serve(), cancel(5), job(6), serve()]
        self.assertEqual(last(*calls), [1, 6, 1, 1])

    def test_room_for_another_job(self):
        calls = [*FOURTEEN, cancel(7), job(15), job(16)]
        self.assertEqual(ask(*calls)[14:], [[0], [14], [-7]])

    # No line of 60 calls gets to 40 jobs, as all but 14 of them need a call of their own to be
    # over; so this list is longer.
    def test_it_stays_among_the_forty(self):
        calls = []
        for number in range(39):
            calls += [job(number), cancel(number)]
        self.assertEqual(ask(*calls, job(39), job(40), cancel(39), job(40))[-4:],
                         [[1], [-7], [0], [-7]])

    def test_the_order_of_the_others_stays(self):
        calls = [job(9), job(4), job(6), job(2), cancel(4), queue()]
        self.assertEqual(last(*calls), [3, 9, 0, 1, 0, 6, 0, 1, 0, 2, 0, 1, 0])

    def test_machine_that_is_leaving_is_gone(self):
        calls = [machine(1), job(5), serve(), drain(1), cancel(5), machines(), machine(1)]
        self.assertEqual(ask(*calls)[3:], [[1], [1], [0], [1]])


class Refused(unittest.TestCase):
    def test_no_such_job(self):
        self.assertEqual(answers([8, 0]), [1, -2])
        self.assertEqual(ask(job(5), cancel(4), cancel(0), cancel(GREATEST), cancel(5)),
                         [[1], [-2], [-2], [-2], [0]])

    def test_job_that_was_called_off(self):
        self.assertEqual(ask(job(5), cancel(5), cancel(5))[1:], [[0], [-2]])
        self.assertEqual(ask(machine(1), job(5), serve(), cancel(5), cancel(5))[3:], [[1], [-2]])

    def test_job_that_passed_or_failed(self):
        for passed in (0, 1):
            calls = [machine(1), job(5), serve(), result(0, passed), cancel(5), ends()]
            self.assertEqual(ask(*calls)[4:], [[-2], [1, 5, passed]])

    def test_job_that_was_refused(self):
        self.assertEqual(last(job(5, tries=0), cancel(5)), [-2])

    def test_a_machine_is_no_job(self):
        self.assertEqual(last(machine(1), job(5), serve(), cancel(1)), [-2])

    def test_no_jobs_behind_begins(self):
        self.assertEqual(last(job(5), begins(5, 10), cancel(5)), [-2])

    def test_all_is_as_it_was(self):
        before = [machine(1, 1), machine(2, 2), job(5, 1, tries=2), job(6, 2), job(7, 1), job(8, 4),
                  serve(), result(1, 1), cancel(8), tick(3), drain(1)]
        for number in (1, 2, 4, 6, 8, GREATEST):
            self.assertEqual(last(*before, cancel(number)), [-2])
            self.assertEqual(state_behind(*before, cancel(number)), state_behind(*before))


if __name__ == "__main__":
    unittest.main()
