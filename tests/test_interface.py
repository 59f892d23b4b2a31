"""The interface: how calls are handed in and answers given back."""

import unittest

from lampvalues.desk import UnknownCall, answers
from tests.calls import add, get, joined, put, told


def refuse(*args, **kwargs):
    raise AssertionError("what is handed in was changed")


class Guarded(list):
    """A list that can't be changed, not for a while either."""

    append = clear = extend = insert = pop = remove = reverse = sort = refuse
    __setitem__ = __delitem__ = __iadd__ = __imul__ = refuse


class Form(unittest.TestCase):
    def test_the_empty_list(self):
        self.assertEqual(answers([]), [])

    def test_calls_and_answers_number_by_number(self):
        calls = [1, 4, 0, 2, 0, 42, 1, 7,
                 2, 1, 2, 8, 9,
                 3, 1,
                 3, 2,
                 1, 2, 16, 16] + [5] * 16 + [2, 1, 3,
                 3, 2,
                 2, 2, 0,
                 2, 1, 0,
                 3, 1]
        wanted = [1, 1, 1, 0, 3, 2, 8, 9, 1, -1, 1, 2, 3, 2, 1, 3, 1, -1, 1, 0, 1, 0]
        self.assertEqual(answers(calls), wanted)

    def test_most_stands_ahead_of_rights(self):
        self.assertEqual(answers([1, 40, 0, 2, 0, 42, 1, 7]), [1, 1])
        self.assertEqual(answers([1, 0, 40, 2, 0, 42, 0]), [1, -1])

    def test_refused_calls_are_read_to_their_end(self):
        calls = [1, -1, 0, 3, 1, 1, 1, 2, 3, 3,
                 2, 9, 4, 1, 1, 1, 1,
                 3, 0,
                 1, 1, 0, 2, 3, 3, 1, 6,
                 3, 1]
        self.assertEqual(answers(calls), [1, -1, 1, -1, 1, -1, 1, 1, 2, 1, 6])

    def test_a_list_of_whole_numbers(self):
        given = answers(joined([add(4, 0, [1]), put(1, []), get(1), get(2), add(1, 40, [])]))
        self.assertIs(type(given), list)
        for number in given:
            self.assertIs(type(number), int)

    def test_numbers_that_are_no_call(self):
        for call in (-1, 0, 7):
            with self.subTest(call=call):
                with self.assertRaises(UnknownCall):
                    answers([call, 1])


class Long(unittest.TestCase):
    def test_1000_calls(self):
        value = [number % 256 for number in range(512)]
        given = told(add(512, 0, value), *[get(1)] * 999)
        self.assertEqual(len(given), 1000)
        self.assertEqual(given[0], [1])
        # One by one, as telling two such long lists apart takes unittest hours.
        for answer in given[1:]:
            self.assertEqual(answer, [512] + value)

    def test_30000_numbers(self):
        calls = [add(512, 0, [7]), *[put(1, [number] * 512) for number in range(58)]]
        rest = 30000 - len(joined(calls)) - 3
        calls.append(put(1, [99] * rest))
        self.assertEqual(len(joined(calls)), 30000)
        self.assertEqual(told(*calls), [[1]] + [[0]] * 59)


class HandedIn(unittest.TestCase):
    CALLS = joined([add(4, 0, [1]), add(4, 16, [1, 2, 3, 4]), add(4, 32, []), put(1, [5, 6]),
                    put(2, [5]), put(2, [5, 6, 7, 8]), get(1), get(2), get(3)])

    def test_the_list_is_as_it_was(self):
        calls = list(self.CALLS)
        answers(calls)
        self.assertEqual(calls, self.CALLS)

    def test_the_list_is_never_changed(self):
        self.assertEqual(answers(Guarded(self.CALLS)), answers(list(self.CALLS)))

    def test_the_answer_is_a_list_of_its_own(self):
        self.assertIsNot(answers([]), answers([]))
        calls = []
        self.assertIsNot(answers(calls), calls)


class NothingKept(unittest.TestCase):
    def test_a_second_time_knows_nothing_of_the_first(self):
        self.assertEqual(told(add(4, 0, [1]), get(1)), [[1], [1, 1]])
        self.assertEqual(told(get(1), put(1, [2]), add(4, 0, [3]), get(1)), [[-1], [-1], [1], [1, 3]])

    def test_the_same_list_has_the_same_answer(self):
        calls = joined([add(4, 0, [1]), put(1, [2]), get(1)])
        first = answers(calls)
        kept = list(first)
        first.clear()
        self.assertEqual(answers(calls), kept)

    def test_a_full_table_is_gone(self):
        told(*[add(0, 0, [])] * 256)
        self.assertEqual(told(add(0, 0, [])), [[1]])

    def test_nothing_is_kept_behind_a_failure(self):
        with self.assertRaises(UnknownCall):
            answers(add(4, 0, [1]) + [0])
        self.assertEqual(told(get(1)), [[-1]])


if __name__ == "__main__":
    unittest.main()
