import unittest

from helper import (ask, beat, begins, cancel, drain, job, last, machine, machines, result, serve,
                    state_behind, tick)
from labelrunners.house import answers

MOST = 1000000
GREATEST = 4294967295


class Ordinary(unittest.TestCase):
    def test_whole_list(self):
        line = [1, 9, 3, 1, 4, 65535, 2, 5, 0, 0, 1, 3, 6, 2, 11]
        self.assertEqual(answers(line), [1, 1, 1, 2, 1, 1, 4, 1, 5, 4, 0, 1, 0,
                                         9, 2, 4, 65535, 2, 1, 9, 3, 2, 0])

    def test_none(self):
        self.assertEqual(answers([11]), [1, 0])
        self.assertEqual(last(job(5), machines()), [0])

    def test_by_number(self):
        calls = [machine(30, 1), machine(4, 2), machine(GREATEST, 65535), machine(0), machines()]
        self.assertEqual(last(*calls),
                         [4, 0, 0, 0, 0, 4, 2, 0, 0, 30, 1, 0, 0, GREATEST, 65535, 0, 0])

    def test_seven(self):
        calls = [machine(number, number) for number in range(8)] + [machines()]
        self.assertEqual(last(*calls),
                         [7] + [part for number in range(7) for part in (number, number, 0, 0)])

    def test_refused_ones_are_not_told(self):
        calls = [machine(1, 3), machine(1, 4), machine(2, 65536), machines()]
        self.assertEqual(last(*calls), [1, 1, 3, 0, 0])

    def test_lost_ones_are_not_told(self):
        self.assertEqual(last(machine(1), machine(2), tick(5), beat(2), tick(1), machines()),
                         [1, 2, 0, 1, 0])

    def test_empty_behind_begins(self):
        self.assertEqual(last(machine(1), begins(5, 10), machines()), [0])

    def test_nothing_is_changed(self):
        before = [machine(2, 1), machine(1), job(5), job(6), serve(), tick(3), drain(1), job(7)]
        self.assertEqual(state_behind(*before, machines()), state_behind(*before))


class Heard(unittest.TestCase):
    def test_minutes_since_it_came(self):
        calls = [tick(7), machine(1), machines(), tick(1), machines(), tick(4), machines()]
        self.assertEqual(ask(*calls)[2::2], [[1, 1, 0, 0, 0], [1, 1, 0, 1, 0], [1, 1, 0, 5, 0]])

    def test_minutes_since_its_last_beat(self):
        calls = [machine(1), machine(2), tick(3), beat(1), machines(), tick(2), machines()]
        self.assertEqual(ask(*calls)[4::2], [[2, 1, 0, 0, 0, 2, 0, 3, 0], [2, 1, 0, 2, 0, 2, 0, 5, 0]])

    def test_most_minutes(self):
        self.assertEqual(last(begins(MOST, 1), machine(1), tick(MOST), machines()), [1, 1, 0, MOST, 0])

    def test_only_beats_are_heard(self):
        calls = [machine(1), tick(2), job(5, tries=2), serve(), result(0, 0), serve(), cancel(5),
                 machine(1), machines()]
        self.assertEqual(last(*calls), [1, 1, 0, 2, 0])

    def test_refused_tick(self):
        self.assertEqual(last(machine(1), tick(2), tick(0), tick(MOST), machines()), [1, 1, 0, 2, 0])


class HowItIs(unittest.TestCase):
    def test_free_and_busy(self):
        calls = [machine(1), machine(2), job(5), machines(), serve(), machines(), result(0, 1),
                 machines()]
        self.assertEqual(ask(*calls)[3::2], [[2, 1, 0, 0, 0, 2, 0, 0, 0], [2, 1, 0, 0, 1, 2, 0, 0, 0],
                                             [2, 1, 0, 0, 0, 2, 0, 0, 0]])

    def test_machine_0_is_free_too(self):
        self.assertEqual(last(machine(0), job(5, 1), serve(), machines()), [1, 0, 0, 0, 0])

    def test_free_again(self):
        start = [machine(1), job(5, tries=2), serve()]
        for stop in (result(0, 0), result(0, 1), cancel(5)):
            self.assertEqual(ask(*start, machines(), stop, machines())[3::2],
                             [[1, 1, 0, 0, 1], [1, 1, 0, 0, 0]])

    def test_leaving(self):
        calls = [machine(1), machine(2), machine(3), job(5), job(6), serve(), drain(2), machines()]
        self.assertEqual(last(*calls), [3, 1, 0, 0, 1, 2, 0, 0, 2, 3, 0, 0, 0])

    def test_leaving_and_gone(self):
        calls = [machine(1), job(5), serve(), drain(1), machines(), result(0, 1), machines()]
        self.assertEqual(ask(*calls)[4::2], [[1, 1, 0, 0, 2], [0]])

    def test_leaving_behind_a_beat_and_a_refused_drain(self):
        calls = [machine(1), job(5), serve(), drain(1), tick(1), beat(1), drain(1), machines()]
        self.assertEqual(last(*calls), [1, 1, 0, 0, 2])

    def test_drained_without_a_job(self):
        self.assertEqual(last(machine(1), machine(2), drain(1), machines()), [1, 2, 0, 0, 0])


if __name__ == "__main__":
    unittest.main()
