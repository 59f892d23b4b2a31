"""The interface: how calls are handed in and answers given back."""

import contextlib
import io
import unittest

from lampvalues.desk import UnknownCall, answers
from tests.calls import (KIND, SERVICE, add, agree, answer, by_kind, confirm, counted, end, error, find_kinds,
                         find_value, get, groups, joined, link, long, message, parted, piece, put, quiet, read, rest,
                         several, tell, told, write)

# One call behind another, each of the six and each message, with what is answered.
MIXED = (
    (link(1), [0]),
    (add(4, 31, [1, 2, 3, 4], SERVICE), [1]),
    (add(30, 7, counted(30)), [2]),
    (add(4, 10, [5], long(KIND)), [3]),
    (add(4, 32, [5]), [-1]),
    (agree(25), answer(3, 247, 0)),
    (find_kinds(1, 3), answer(5, 1, 1, 0, 0, 0x28, 2, 0, 0, 42)),
    (find_value(1, 3, SERVICE, [1, 2, 3, 4]), answer(7, 1, 0, 3, 0)),
    (by_kind(1, 3, KIND), answer(9, 23, 2, 0, *counted(21))),
    (groups(1, 3, SERVICE), answer(0x11, 8, 1, 0, 3, 0, 1, 2, 3, 4)),
    (read(2), answer(0x0B, *counted(24))),
    (rest(2, 24), answer(0x0D, *counted(6, 24))),
    (several(1, 3), error(0x0E, 3, 2)),
    (write(3, [6, 7]), answer(0x13)),
    (piece(3, 2, [8]), answer(0x17, 3, 0, 2, 0, 8)),
    (tell(3, 1), answer(0x1D, 3, 0, 6, 7)),
    (quiet(2, [9]), [0]),
    (quiet(3, [9]), [0]),
    (tell(2, 7), [-2]),
    (confirm(), [0]),
    (tell(2, -7), answer(0x1D, 2, 0, 9)),
    (end(1), answer(0x19)),
    (get(3), [3, 6, 7, 8]),
    (put(3, [1]), [0]),
    (put(3, [1] * 5), [-1]),
    (piece(3, 0, [2]), answer(0x17, 3, 0, 0, 0, 2)),
    (link(0), [0]),
    (end(1), answer(0x19)),
    (write(3, [6]), error(0x12, 3, 5)),
    (get(3), [1, 1]),
    (get(4), [-1]),
    (tell(4, 0), [-1]),
    (tell(2, 1), answer(0x1D, 2, 0, 9)),
    (message([]), [0]),
    (message([0x1F]), error(0x1F, 0, 6)),
    (message([0x12] * 24), error(0x12, 0, 4)),
)


def refuse(*args, **kwargs):
    raise AssertionError("what is handed in was changed")


class Guarded(list):
    """A list that can't be changed, not for a while either."""

    append = clear = extend = insert = pop = remove = reverse = sort = refuse
    __setitem__ = __delitem__ = __iadd__ = __imul__ = refuse


class Form(unittest.TestCase):
    def test_the_empty_list(self):
        self.assertEqual(answers([]), [])

    def test_calls_and_answers_number_by_number(self):
        calls = [1, 4, 0, 2, 0, 42, 1, 7,
                 2, 1, 2, 8, 9,
                 3, 1,
                 3, 2,
                 1, 2, 16, 16] + [5] * 16 + [2, 1, 3,
                 3, 2,
                 2, 2, 0,
                 2, 1, 0,
                 3, 1]
        wanted = [1, 1, 1, 0, 3, 2, 8, 9, 1, -1, 1, 2, 3, 2, 1, 3, 1, -1, 1, 0, 1, 0]
        self.assertEqual(answers(calls), wanted)

    def test_the_calls_4_to_6_number_by_number(self):
        calls = [6, 1,
                 1, 4, 15, 2, 0, 42, 1, 7,
                 4, 3, 0x0A, 1, 0,
                 4, 0,
                 5, 1, 0,
                 5, 1, -5,
                 5, 1, 1,
                 5, 2, 0,
                 4, 1, 0x1E,
                 6, 0,
                 4, 3, 0x0A, 1, 0]
        wanted = [1, 0, 1, 1, 3, 2, 0x0B, 7, 1, 0, 5, 4, 0x1B, 1, 0, 7, 5, 4, 0x1D, 1, 0, 7, 1, -2, 1, -1, 1, 0,
                  1, 0, 6, 5, 1, 0x0A, 1, 0, 5]
        self.assertEqual(answers(calls), wanted)

    def test_all_six_mixed(self):
        given = told(*[call for call, wanted in MIXED])
        self.assertEqual(len(given), len(MIXED))
        for number, (call, wanted) in enumerate(MIXED):
            with self.subTest(number=number, call=call):
                self.assertEqual(given[number], wanted)

    def test_each_beginning_of_a_list_is_answered_alike(self):
        calls = [call for call, wanted in MIXED]
        for count in range(len(MIXED)):
            self.assertEqual(told(*calls[:count]), [wanted for call, wanted in MIXED[:count]])

    def test_most_stands_ahead_of_rights(self):
        self.assertEqual(answers([1, 40, 0, 2, 0, 42, 1, 7]), [1, 1])
        self.assertEqual(answers([1, 0, 40, 2, 0, 42, 0]), [1, -1])

    def test_refused_calls_are_read_to_their_end(self):
        calls = [1, -1, 0, 3, 1, 1, 1, 2, 3, 3,
                 2, 9, 4, 1, 1, 1, 1,
                 3, 0,
                 1, 1, 0, 2, 3, 3, 1, 6,
                 3, 1]
        self.assertEqual(answers(calls), [1, -1, 1, -1, 1, -1, 1, 1, 2, 1, 6])

    def test_a_list_of_whole_numbers(self):
        given = answers(joined([call for call, wanted in MIXED]))
        self.assertIs(type(given), list)
        for number in given:
            self.assertIs(type(number), int)

    def test_numbers_that_are_no_call(self):
        for call in (-1, 0, 7):
            with self.subTest(call=call):
                with self.assertRaises(UnknownCall):
                    answers([call, 1])


class Long(unittest.TestCase):
    def test_1000_calls(self):
        value = [number % 256 for number in range(512)]
        given = told(add(512, 0, value), *[get(1)] * 999)
        self.assertEqual(len(given), 1000)
        self.assertEqual(given[0], [1])
        # One by one, as telling two such long lists apart takes unittest hours.
        for answer in given[1:]:
            self.assertEqual(answer, [512] + value)

    def test_30000_numbers(self):
        calls = [add(512, 0, [7]), *[put(1, [number] * 512) for number in range(58)]]
        rest = 30000 - len(joined(calls)) - 3
        calls.append(put(1, [99] * rest))
        self.assertEqual(len(joined(calls)), 30000)
        self.assertEqual(told(*calls), [[1]] + [[0]] * 59)


    def test_1000_calls_on_a_full_table(self):
        table = [add(0, 1, [], SERVICE)] + [add(0, 1, [])] * 255
        asked = [agree(247)] + [find_value(1, 65535, KIND, []), by_kind(1, 65535, KIND), groups(1, 65535, SERVICE),
                                find_kinds(1, 65535)] * 185
        given = told(*table, *asked, *[tell(256, 1), link(1), get(256)])
        self.assertEqual(len(given), 1000)
        self.assertEqual(given[-3:], [answer(0x1D, 0, 1), [0], [0]])
        # One by one, as above.
        for number in range(257, 997):
            self.assertEqual(given[number], given[257 + (number - 257) % 4])
        self.assertEqual([len(one) for one in given[257:261]], [1 + 245, 1 + 246, 1 + 6, 1 + 246])

    def test_30000_numbers_of_all_six(self):
        calls = [call for call, wanted in MIXED]
        wanted = [wanted for call, wanted in MIXED]
        value = counted(512)
        calls += [add(512, 7, value), agree(247)]
        wanted += [[4], answer(3, 247, 0)]
        for number in range(90):
            calls += [write(4, counted(244, number)), tell(4, 0), link(number), agree(247), get(4)]
            wanted += [answer(0x13), answer(0x1B, 4, 0, *counted(244, number)), [0], answer(3, 247, 0),
                       [244] + counted(244, number)]
        left = 30000 - len(joined(calls))
        self.assertGreater(left, 520)
        calls += [put(4, value)] * (left // 520)
        wanted += [[0]] * (left // 520)
        left = 30000 - len(joined(calls))
        calls += [message([0x40] + [1] * (left - 3))]
        wanted += [[0]]
        self.assertEqual(len(joined(calls)), 30000)
        given = told(*calls)
        self.assertEqual(len(given), len(wanted))
        for one, other in zip(given, wanted):
            self.assertEqual(one, other)


class HandedIn(unittest.TestCase):
    CALLS = joined([add(4, 0, [1]), add(4, 16, [1, 2, 3, 4]), add(4, 32, []), put(1, [5, 6]),
                    put(2, [5]), put(2, [5, 6, 7, 8]), get(1), get(2), get(3)]
                   + [call for call, wanted in MIXED])

    def test_the_list_is_as_it_was(self):
        calls = list(self.CALLS)
        answers(calls)
        self.assertEqual(calls, self.CALLS)

    def test_the_list_is_never_changed(self):
        self.assertEqual(answers(Guarded(self.CALLS)), answers(list(self.CALLS)))

    def test_the_answer_is_a_list_of_its_own(self):
        self.assertIsNot(answers([]), answers([]))
        calls = []
        self.assertIsNot(answers(calls), calls)


class NothingKept(unittest.TestCase):
    def test_a_second_time_knows_nothing_of_the_first(self):
        self.assertEqual(told(add(4, 0, [1]), get(1)), [[1], [1, 1]])
        self.assertEqual(told(get(1), put(1, [2]), add(4, 0, [3]), get(1)), [[-1], [-1], [1], [1, 3]])

    def test_the_same_list_has_the_same_answer(self):
        calls = joined([add(4, 0, [1]), put(1, [2]), get(1)])
        first = answers(calls)
        kept = list(first)
        first.clear()
        self.assertEqual(answers(calls), kept)

    def test_the_same_mixed_list_has_the_same_answer(self):
        calls = joined([call for call, wanted in MIXED])
        wanted = [wanted for call, wanted in MIXED]
        for time in range(3):
            self.assertEqual(parted(answers(calls)), wanted)

    def test_the_link_is_gone(self):
        told(link(1), agree(247), add(4, 2, [1]), *[piece(1, 0, [9])] * 16, tell(1, 1))
        given = told(add(60, 11, [1] * 60), read(1), add(60, 3, [1] * 60), read(2), piece(2, 0, []), end(1), get(2),
                     tell(2, 1))
        self.assertEqual(given[1:], [error(0x0A, 1, 5), [2], answer(0x0B, *[1] * 22), answer(0x17, 2, 0, 0, 0),
                                     answer(0x19), [60] + [1] * 60, answer(0x1D, 2, 0, *[1] * 20)])

    def test_a_full_table_is_gone(self):
        told(*[add(0, 0, [])] * 256)
        self.assertEqual(told(add(0, 0, [])), [[1]])

    def test_nothing_is_kept_behind_a_failure(self):
        with self.assertRaises(UnknownCall):
            answers(add(4, 0, [1]) + [0])
        self.assertEqual(told(get(1)), [[-1]])


class Quiet(unittest.TestCase):
    def test_nothing_is_printed(self):
        out = io.StringIO()
        err = io.StringIO()
        with contextlib.redirect_stdout(out), contextlib.redirect_stderr(err):
            answers(joined([call for call, wanted in MIXED]))
        self.assertEqual(out.getvalue() + err.getvalue(), "")


if __name__ == "__main__":
    unittest.main()
