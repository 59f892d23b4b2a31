"""Promises 1, 5 and 6: how a device begins, tell and link; and message 1EH."""

import unittest

from tests.calls import (GREATEST, LEAST, NOTHING, add, agree, answer, confirm, counted, end, error, find_kinds, get,
                         last, link, message, piece, put, quiet, read, tell, told, write)

TABLE = [add(4, 0, [1]), add(4, 0, [2, 0, 255])]
NOT_THERE = (LEAST, -2, -1, 0, 3, 4, 256, 257, 65537, 65538, GREATEST)
TRUE = (1, -1, 2, 256, 65536, LEAST, GREATEST)


class Beginning(unittest.TestCase):
    def test_no_attributes(self):
        self.assertEqual(told(get(1), tell(1, 0), tell(1, 1), find_kinds(1, 65535), add(4, 0, [])),
                         [[-1], [-1], [-1], error(4, 1, 10), [1]])

    def test_a_new_link_that_is_not_safe(self):
        given = told(add(512, 1, [5] * 30), add(4, 9, [5]), add(4, 14, [5]), read(1), read(2), write(3, [6]),
                     quiet(3, [6]), get(3), tell(1, 1))
        self.assertEqual(given[3:], [answer(0x0B, *[5] * 22), error(0x0A, 2, 5), error(0x12, 3, 5), NOTHING, [1, 5],
                                     answer(0x1D, 1, 0, *[5] * 20)])

    def test_no_pieces_wait(self):
        given = told(add(4, 2, [5]), end(1), get(1), *[piece(1, 0, [])] * 17)
        self.assertEqual(given[1:], [answer(0x19), [1, 5], *[answer(0x17, 1, 0, 0, 0)] * 16, error(0x16, 1, 9)])

    def test_as_behind_link_with_0(self):
        calls = [add(512, 31, [5] * 512), read(1), piece(1, 0, []), end(1), tell(1, 1), tell(1, 1), tell(1, 0)]
        self.assertEqual(told(link(0), *calls)[1:], told(*calls))


class Tell(unittest.TestCase):
    def test_without_confirm(self):
        self.assertEqual(told(*TABLE, tell(2, 0), tell(1, 0))[2:],
                         [answer(0x1B, 2, 0, 2, 0, 255), answer(0x1B, 1, 0, 1)])

    def test_with_confirm(self):
        for true in TRUE:
            with self.subTest(true=true):
                self.assertEqual(last(*TABLE, tell(2, true)), answer(0x1D, 2, 0, 2, 0, 255))

    def test_handles_that_are_not_there(self):
        for handle in NOT_THERE:
            for true in (0, 1, LEAST, GREATEST):
                with self.subTest(handle=handle, true=true):
                    # A refusal leaves nothing that waits.
                    given = told(*TABLE, tell(handle, true), tell(1, 1))
                    self.assertEqual(given[2:], [[-1], answer(0x1D, 1, 0, 1)])

    def test_no_such_handle_counts_ahead_of_one_that_waits(self):
        for handle in NOT_THERE:
            with self.subTest(handle=handle):
                given = told(*TABLE, tell(1, 1), tell(handle, 1), tell(2, 1))
                self.assertEqual(given[3:], [[-1], [-2]])

    def test_while_one_waits(self):
        for true in TRUE:
            with self.subTest(true=true):
                given = told(*TABLE, tell(1, true), tell(1, true), tell(2, true), tell(2, 0), tell(1, 1))
                self.assertEqual(given[2:], [answer(0x1D, 1, 0, 1), [-2], [-2], answer(0x1B, 2, 0, 2, 0, 255), [-2]])

    def test_without_confirm_nothing_waits(self):
        given = told(*TABLE, tell(1, 0), tell(1, 1))
        self.assertEqual(given[2:], [answer(0x1B, 1, 0, 1), answer(0x1D, 1, 0, 1)])

    def test_after_1e(self):
        given = told(*TABLE, tell(1, 1), confirm(), tell(2, 1), tell(2, 1), confirm(), tell(1, 1))
        self.assertEqual(given[2:], [answer(0x1D, 1, 0, 1), NOTHING, answer(0x1D, 2, 0, 2, 0, 255), [-2], NOTHING,
                                     answer(0x1D, 1, 0, 1)])

    def test_1e_ahead_of_it_counts_for_nothing(self):
        given = told(*TABLE, confirm(), confirm(), tell(1, 1), tell(1, 1))
        self.assertEqual(given[2:], [NOTHING, NOTHING, answer(0x1D, 1, 0, 1), [-2]])

    def test_1e_of_another_length_confirms_nothing(self):
        for more in (*range(1, 30), 511):
            with self.subTest(more=more):
                given = told(*TABLE, tell(1, 1), message([0x1E] + [0] * more), tell(1, 1))
                self.assertEqual(given[3:], [NOTHING, [-2]])

    def test_1e_changes_nothing_else(self):
        given = told(link(1), agree(50), add(100, 15, [5] * 100), piece(1, 0, [9]), tell(1, 1), confirm(), read(1),
                     end(1), get(1))
        self.assertEqual(given[5:], [NOTHING, answer(0x0B, *[5] * 49), answer(0x19), [100, 9] + [5] * 99])

    def test_after_link(self):
        for safe in (0, 1):
            with self.subTest(safe=safe):
                given = told(*TABLE, tell(1, 1), link(safe), tell(1, 1), tell(1, 1))
                self.assertEqual(given[3:], [[0], answer(0x1D, 1, 0, 1), [-2]])

    def test_other_messages_confirm_nothing(self):
        for call in (read(1), write(1, [1]), quiet(1, [1]), agree(50), end(0), end(1), piece(1, 0, []), message([]),
                     message([0x1D]), message([0x5E]), message([0x9E]), message([0x1F]), get(1), put(1, [1]),
                     tell(1, 0), tell(9, 1), add(4, 0, [])):
            with self.subTest(call=call):
                self.assertEqual(last(*TABLE, tell(1, 1), call, tell(1, 1)), [-2])

    def test_the_value_is_cut(self):
        for length in range(23, 248):
            for size in (0, 1, length - 4, length - 3, length - 2, 253, 512):
                with self.subTest(length=length, size=size):
                    table = [add(512, 0, counted(size)), agree(length)]
                    value = counted(size)[:length - 3]
                    self.assertEqual(last(*table, tell(1, 0)), answer(0x1B, 1, 0, *value))
                    self.assertEqual(last(*table, tell(1, 1)), answer(0x1D, 1, 0, *value))

    def test_telling_leaves_the_value(self):
        given = told(add(512, 0, counted(512)), tell(1, 0), tell(1, 1), get(1))
        self.assertEqual(given[3], [512] + counted(512))

    def test_rights_do_not_count(self):
        for rights in range(32):
            for safe in (0, 1):
                with self.subTest(rights=rights, safe=safe):
                    given = told(link(safe), add(1, rights, [5]), tell(1, 0), tell(1, 1))
                    self.assertEqual(given[2:], [answer(0x1B, 1, 0, 5), answer(0x1D, 1, 0, 5)])

    def test_the_handle_has_two_bytes(self):
        table = [add(1, 0, [number % 256]) for number in range(256)]
        given = told(*table, tell(255, 0), tell(256, 0), tell(256, 1), tell(257, 0))
        self.assertEqual(given[256:], [answer(0x1B, 255, 0, 254), answer(0x1B, 0, 1, 255), answer(0x1D, 0, 1, 255),
                                       [-1]])

    def test_the_value_it_has_now(self):
        given = told(add(4, 6, [1]), put(1, [2]), tell(1, 0), write(1, [3]), tell(1, 0), quiet(1, []), tell(1, 0))
        self.assertEqual(given[2::2], [answer(0x1B, 1, 0, 2), answer(0x1B, 1, 0, 3), answer(0x1B, 1, 0)])


class Link(unittest.TestCase):
    def test_0_is_answered(self):
        for safe in (0, *TRUE):
            with self.subTest(safe=safe):
                self.assertEqual(told(link(safe), link(safe)), [[0], [0]])

    def test_safe_or_not(self):
        table = [add(4, 15, [1])]
        for safe in TRUE:
            with self.subTest(safe=safe):
                given = told(*table, link(safe), read(1), write(1, [2]), quiet(1, [3]), get(1))
                self.assertEqual(given[2:], [answer(0x0B, 1), answer(0x13), NOTHING, [1, 3]])
                given = told(*table, link(safe), link(0), read(1), write(1, [2]), quiet(1, [3]), get(1))
                self.assertEqual(given[3:], [error(0x0A, 1, 5), error(0x12, 1, 5), NOTHING, [1, 1]])

    def test_l_is_23_again(self):
        for safe in (0, 1):
            with self.subTest(safe=safe):
                calls = [add(512, 1, counted(512)), agree(247), read(1), link(safe), read(1), tell(1, 0)]
                self.assertEqual(told(*calls)[2:], [answer(0x0B, *counted(246)), [0], answer(0x0B, *counted(22)),
                                                    answer(0x1B, 1, 0, *counted(20))])
                self.assertEqual(last(*calls, message([0x20] + [0] * 22)), error(0x20, 0, 6))
                self.assertEqual(last(*calls, message([0x20] + [0] * 23)), error(0x20, 0, 4))

    def test_no_pieces_wait(self):
        for safe in (0, 1):
            with self.subTest(safe=safe):
                given = told(add(4, 2, [1]), piece(1, 0, [9]), link(safe), end(1), get(1))
                self.assertEqual(given[2:], [[0], answer(0x19), [1, 1]])

    def test_values_stay(self):
        given = told(*TABLE, put(1, [9]), add(4, 2, []), write(3, [8, 8]), link(1), get(1), get(2), get(3),
                     find_kinds(1, 9), link(0), get(1), get(2), get(3), add(4, 0, []))
        values = [[1, 9], [3, 2, 0, 255], [2, 8, 8]]
        self.assertEqual(given[5:], [[0], *values, answer(5, 1, 1, 0, 0, 42, 2, 0, 0, 42, 3, 0, 0, 42), [0], *values,
                                     [4]])


if __name__ == "__main__":
    unittest.main()
