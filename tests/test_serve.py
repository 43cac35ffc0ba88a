import unittest

from helper import ask, begins, job, last, machine, result, serve, tick
from labelrunners.house import answers


class Ordinary(unittest.TestCase):
    def test_whole_list(self):
        line = [1, 1, 3, 1, 2, 1, 2, 10, 1, 0, 1, 2, 11, 2, 5, 1, 3]
        self.assertEqual(answers(line), [1, 1, 1, 2, 1, 1, 1, 2, 7, 2, 11, 1, 0, 10, 2, 1])

    def test_nothing_there(self):
        self.assertEqual(answers([3]), [1, 0])

    def test_no_machine(self):
        self.assertEqual(answers([2, 1, 0, 0, 1, 3]), [1, 1, 1, 0])

    def test_no_job(self):
        self.assertEqual(answers([1, 1, 0, 3]), [1, 1, 1, 0])

    def test_no_machine_suits(self):
        self.assertEqual(last(machine(1, 1), job(5, 2), serve()), [0])

    def test_busy_machines_get_no_job(self):
        self.assertEqual(ask(machine(1), job(5), job(6), serve(), serve())[3:], [[1, 5, 1, 0], [0]])

    def test_machine_is_free_again_behind_a_result(self):
        calls = [machine(1), job(5), job(6), serve(), result(0, 1), serve()]
        self.assertEqual(ask(*calls)[3:], [[1, 5, 1, 0], [1], [1, 6, 1, 1]])

    def test_jobs_that_run_are_not_chosen(self):
        calls = [machine(1), job(5), serve(), machine(2), serve()]
        self.assertEqual(last(*calls), [0])

    def test_seven_of_fourteen(self):
        jobs = [job(number, urgency=number) for number in range(1, 15)]
        machines = [machine(number) for number in range(1, 8)]
        told = last(*jobs, *machines, serve())
        self.assertEqual(told[0], 7)
        self.assertEqual(told[1::3], [14, 13, 12, 11, 10, 9, 8])
        self.assertEqual(told[2::3], [1, 2, 3, 4, 5, 6, 7])
        self.assertEqual(told[3::3], [0, 1, 2, 3, 4, 5, 6])


class QueueOrder(unittest.TestCase):
    def test_more_urgent_first(self):
        calls = [machine(1), machine(2), machine(3), job(1, urgency=1), job(2, urgency=3),
                 job(3, urgency=2), serve()]
        self.assertEqual(last(*calls), [3, 2, 1, 0, 3, 2, 1, 1, 3, 2])

    def test_as_urgent_in_the_order_in_which_they_came(self):
        calls = [machine(1), machine(2), machine(3), job(9), job(4), job(6), serve()]
        self.assertEqual(last(*calls), [3, 9, 1, 0, 4, 2, 1, 6, 3, 2])

    def test_urgency_now_grows_at_each_whole_age(self):
        for minutes, first in ((19, 2), (20, 1), (21, 1)):
            calls = [job(1), tick(minutes), job(2, urgency=2), machine(7), serve()]
            self.assertEqual(last(*calls), [1, first, 7, 0])

    def test_age_counts_from_when_each_came(self):
        # Job 1 came at minute 0, job 2 at minute 3: they grow more urgent at minutes 10 and 13.
        for minute, first in ((9, 2), (10, 1), (12, 1), (13, 2), (19, 2), (20, 1)):
            calls = [job(1, urgency=3), tick(3), job(2, urgency=4), tick(minute - 3), machine(7)]
            self.assertEqual(last(*calls, serve()), [1, first, 7, 0])

    def test_age_of_1_and_of_1000000(self):
        calls = [job(1), tick(999999), job(2, urgency=999999), machine(7), serve()]
        self.assertEqual(last(begins(5, 1), *calls), [1, 1, 7, 0])
        calls = [job(1), tick(999999), job(2, urgency=1), tick(1), machine(7), serve()]
        self.assertEqual(last(begins(5, 1000000), *calls), [1, 1, 7, 0])
        calls = [job(1), tick(999999), job(2, urgency=1), machine(7), serve()]
        self.assertEqual(last(begins(5, 1000000), *calls), [1, 2, 7, 0])

    def test_urgency_now_goes_above_1000000(self):
        calls = [begins(5, 1), job(1, urgency=999999), tick(2), job(2, urgency=1000000),
                 machine(7), serve()]
        self.assertEqual(last(*calls), [1, 1, 7, 0])

    def test_failed_job_waits_where_it_was(self):
        calls = [machine(1), job(5, tries=2), job(6), serve(), result(0, 0), serve()]
        self.assertEqual(ask(*calls)[3:], [[1, 5, 1, 0], [2], [1, 5, 1, 1]])

    def test_failed_job_ages_while_it_runs(self):
        calls = [begins(50, 10), machine(1), job(5, tries=2), serve(), tick(10),
                 job(6, urgency=1), result(0, 0), serve()]
        self.assertEqual(last(*calls), [1, 5, 1, 1])


class Together(unittest.TestCase):
    def test_job_that_more_machines_suit_makes_room(self):
        calls = [machine(1, 1), machine(2, 3), job(5, 1, urgency=9), job(6, 1, urgency=1), serve()]
        self.assertEqual(last(*calls), [2, 5, 1, 0, 6, 2, 1])
        calls = [machine(1, 3), machine(2, 1), job(5, 1, urgency=9), job(6, 2, urgency=1), serve()]
        self.assertEqual(last(*calls), [2, 5, 2, 0, 6, 1, 1])

    def test_room_is_made_along_a_chain(self):
        machines = [machine(1, 1 + 2), machine(2, 2 + 4), machine(3, 4 + 8), machine(4, 8)]
        jobs = [job(10, 2), job(11, 4), job(12, 8), job(13, 1)]
        self.assertEqual(last(*machines, *jobs, serve()),
                         [4, 10, 2, 0, 11, 3, 1, 12, 4, 2, 13, 1, 3])

    def test_no_room_for_a_less_urgent_job(self):
        # Machine 1 alone suits both 5 and 6: the more urgent one is served, and 7 besides.
        calls = [machine(1, 3), machine(2, 4), job(6, 1, urgency=1), job(5, 2, urgency=2),
                 job(7, 4), serve()]
        self.assertEqual(last(*calls), [2, 5, 1, 0, 7, 2, 1])

    def test_a_job_that_cannot_be_served_stops_none_behind_it(self):
        calls = [machine(1, 1), job(5, 2, urgency=9), job(6, 1), serve()]
        self.assertEqual(last(*calls), [1, 6, 1, 0])

    def test_urgent_job_is_not_given_up_for_two_others(self):
        calls = [machine(1, 3), machine(2, 0), job(5, 1, urgency=9), job(6, 2, urgency=8),
                 job(7, 0, urgency=7), job(8, 0, urgency=6), serve()]
        self.assertEqual(last(*calls), [2, 5, 1, 0, 7, 2, 1])


class Placed(unittest.TestCase):
    def test_lowest_number_not_the_first_that_came(self):
        calls = [machine(9), machine(3), machine(6), job(1), job(2), serve()]
        self.assertEqual(last(*calls), [2, 1, 3, 0, 2, 6, 1])

    def test_lowest_that_leaves_enough_for_all(self):
        machines = [machine(1, 1), machine(2, 2), machine(3, 0)]
        calls = [*machines, job(5, 0, urgency=9), job(6, 1), job(7, 2), serve()]
        self.assertEqual(last(*calls), [3, 5, 3, 0, 6, 1, 1, 7, 2, 2])
        calls = [*machines, job(5, 0, urgency=9), job(7, 2), serve()]
        self.assertEqual(last(*calls), [2, 5, 1, 0, 7, 2, 1])

    def test_jobs_that_are_not_chosen_keep_no_machine(self):
        calls = [machine(1, 1), machine(2, 2), job(5, 0, urgency=9), job(6, 8, urgency=5), serve()]
        self.assertEqual(last(*calls), [1, 5, 1, 0])

    def test_the_first_of_the_chosen_comes_first(self):
        # Both orders serve both jobs; the more urgent one gets the lower number.
        calls = [machine(1), machine(2), job(5), job(6, urgency=1), serve()]
        self.assertEqual(last(*calls), [2, 6, 1, 0, 5, 2, 1])

    def test_only_free_machines(self):
        calls = [machine(1, 1), machine(2, 3), job(5), serve(), job(6, 1), serve()]
        self.assertEqual(ask(*calls)[3::2], [[1, 5, 1, 0], [1, 6, 2, 1]])


class Leases(unittest.TestCase):
    def test_numbered_on(self):
        calls = [machine(1), machine(2), job(5), job(6), serve(), result(0, 1), result(1, 1),
                 job(7), serve(), job(8), serve()]
        told = ask(*calls)
        self.assertEqual(told[4], [2, 5, 1, 0, 6, 2, 1])
        self.assertEqual(told[8], [1, 7, 1, 2])
        self.assertEqual(told[10], [1, 8, 2, 3])

    def test_numbered_on_behind_a_serve_that_chose_none(self):
        calls = [serve(), machine(1), serve(), job(5), serve()]
        self.assertEqual(last(*calls), [1, 5, 1, 0])

    def test_from_0_again_behind_begins_alone(self):
        one = [machine(1), job(5), serve()]
        self.assertEqual(last(*one, begins(5, 10), *one), [1, 5, 1, 0])
        self.assertEqual(last(*one, begins(0, 10), result(0, 1), job(6), serve()), [1, 6, 1, 1])


if __name__ == "__main__":
    unittest.main()
