import unittest

import labelrunners.house
from helper import (beat, begins, cancel, drain, ends, job, line_of, machine, machines, queue,
                    result, serve, tick, why)
from labelrunners.house import answers

# Each call with its answer.
ALL = [
    (begins(4, 3), [0]),
    (machine(2, 3), [1]),
    (machine(1, 1), [2]),
    (job(7, 1, 2, 2), [1]),
    (job(8, 2, 1, 1), [2]),
    (job(9, 2, 0, 1), [3]),
    (why(9), [0, 1, 8]),
    (serve(), [2, 7, 1, 0, 8, 2, 1]),
    (beat(2), [0]),
    (result(0, 0), [2]),
    (why(7), [1, 1]),
    (queue(), [2, 7, 2, 1, 0, 9, 0, 1, 0]),
    (serve(), [1, 7, 1, 2]),
    (drain(1), [2]),
    (drain(1), [-4]),
    (machines(), [2, 1, 1, 0, 2, 2, 3, 0, 1]),
    (tick(4), [0]),
    (beat(2), [0]),
    (tick(1), [1, 1, 7]),
    (cancel(8), [1]),
    (result(1, 1), [-5]),
    (queue(), [2, 7, 3, 1, 1, 9, 1, 1, 0]),
    (serve(), [1, 7, 2, 3]),
    (why(7), [2, 2, 3]),
    (result(2, 1), [-5]),
    (result(3, 9), [1]),
    (ends(), [2, 8, 2, 7, 1]),
    (machines(), [1, 2, 3, 1, 0]),
    (drain(2), [0]),
]
ALL_CALLS = [call for call, answer in ALL]
ALL_ANSWERS = [number for call, answer in ALL for number in [len(answer)] + answer]


def forbidden(*args):
    raise AssertionError("what is handed in was changed")


class Kept(list):
    """A list that takes no change, not for a while either."""

    append = clear = extend = insert = pop = remove = reverse = sort = forbidden
    __setitem__ = __delitem__ = __iadd__ = __imul__ = forbidden


class Interface(unittest.TestCase):
    def test_all_calls_in_one_list(self):
        self.assertEqual({call[0] for call in ALL_CALLS}, set(range(13)))
        self.assertEqual(answers(line_of(ALL_CALLS)), ALL_ANSWERS)

    def test_by_its_module_name(self):
        self.assertEqual(labelrunners.house.answers([3]), [1, 0])

    def test_gives_back_a_list_of_whole_numbers(self):
        given = answers(line_of(ALL_CALLS))
        self.assertIs(type(given), list)
        self.assertEqual({type(number) for number in given}, {int})

    def test_what_is_handed_in_stays_as_it_was(self):
        calls = line_of(ALL_CALLS)
        answers(calls)
        self.assertEqual(calls, line_of(ALL_CALLS))

    def test_not_changed_for_a_while_either(self):
        self.assertEqual(answers(Kept(line_of(ALL_CALLS))), ALL_ANSWERS)

    def test_second_time_as_if_the_first(self):
        calls = line_of(ALL_CALLS)
        self.assertEqual(answers(calls), ALL_ANSWERS)
        self.assertEqual(answers(calls), ALL_ANSWERS)

    def test_nothing_is_kept_from_another_list(self):
        one = line_of([machine(1), job(5), serve()])
        answers(line_of([begins(1, 1), tick(1000000), machine(1), job(5), serve(), drain(1)]))
        self.assertEqual(answers(one), [1, 1, 1, 1, 4, 1, 5, 1, 0])
        answers(line_of([machine(1), job(5), cancel(5)]))
        self.assertEqual(answers([10, 11, 12]), [1, 0, 1, 0, 1, 0])
        self.assertEqual(answers(line_of([machine(1), tick(5)])), [1, 1, 1, 0])

    def test_what_is_given_back_is_the_callers_own(self):
        first = answers([3])
        first.append(7)
        self.assertEqual(answers([3]), [1, 0])

    def test_sixty_calls(self):
        for call in (3, 10, 11, 12):
            self.assertEqual(answers([call] * 60), [1, 0] * 60)
        # 60 of the longest calls are just the 300 numbers that a list may have.
        self.assertEqual(answers(line_of([job(k, tries=0) for k in range(60)])), [1, -1] * 60)


if __name__ == "__main__":
    unittest.main()
