import unittest

import labelrunners.house
from helper import beat, begins, job, line_of, machine, result, serve, tick
from labelrunners.house import answers

ALL_CALLS = [begins(4, 3), machine(2, 3), machine(1, 1), job(7, 1, 2, 2), job(8, 2, 1, 1), serve(),
             beat(2), result(0, 0), serve(), tick(4), beat(2), tick(1), result(2, 1), result(1, 9)]
ALL_ANSWERS = [1, 0, 1, 1, 1, 2, 1, 1, 1, 2, 7, 2, 7, 1, 0, 8, 2, 1, 1, 0, 1, 2, 4, 1, 7, 1, 2,
               1, 0, 1, 0, 3, 1, 1, 7, 1, -5, 1, 1]


def forbidden(*args):
    raise AssertionError("what is handed in was changed")


class Kept(list):
    """A list that takes no change, not for a while either."""

    append = clear = extend = insert = pop = remove = reverse = sort = forbidden
    __setitem__ = __delitem__ = __iadd__ = __imul__ = forbidden


class Interface(unittest.TestCase):
    def test_all_calls_in_one_list(self):
        self.assertEqual(answers(line_of(ALL_CALLS)), ALL_ANSWERS)

    def test_by_its_module_name(self):
        self.assertEqual(labelrunners.house.answers([3]), [1, 0])

    def test_gives_back_a_list_of_whole_numbers(self):
        given = answers(line_of(ALL_CALLS))
        self.assertIs(type(given), list)
        self.assertEqual({type(number) for number in given}, {int})

    def test_what_is_handed_in_stays_as_it_was(self):
        calls = line_of(ALL_CALLS)
        answers(calls)
        self.assertEqual(calls, line_of(ALL_CALLS))

    def test_not_changed_for_a_while_either(self):
        self.assertEqual(answers(Kept(line_of(ALL_CALLS))), ALL_ANSWERS)

    def test_second_time_as_if_the_first(self):
        calls = line_of(ALL_CALLS)
        self.assertEqual(answers(calls), ALL_ANSWERS)
        self.assertEqual(answers(calls), ALL_ANSWERS)

    def test_nothing_is_kept_from_another_list(self):
        one = line_of([machine(1), job(5), serve()])
        answers(line_of([begins(1, 1), tick(1000000), machine(1), job(5), serve()]))
        self.assertEqual(answers(one), [1, 1, 1, 1, 4, 1, 5, 1, 0])
        self.assertEqual(answers(line_of([machine(1), tick(5)])), [1, 1, 1, 0])

    def test_what_is_given_back_is_the_callers_own(self):
        first = answers([3])
        first.append(7)
        self.assertEqual(answers([3]), [1, 0])

    def test_sixty_calls(self):
        self.assertEqual(answers([3] * 60), [1, 0] * 60)
        # 60 of the longest calls are just the 300 numbers that a list may have.
        self.assertEqual(answers(line_of([job(k, tries=0) for k in range(60)])), [1, -1] * 60)


if __name__ == "__main__":
    unittest.main()
