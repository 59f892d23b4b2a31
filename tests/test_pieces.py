"""Messages 16H and 18H: pieces that wait, and are laid over the values."""

import unittest

from lampvalues.attribute import Attribute
from lampvalues.device import Device
from lampvalues.messages import take_message
from tests.calls import (NOTHING, add, agree, answer, confirm, counted, end, error, find_kinds, get, last, link,
                         message, piece, put, quiet, read, tell, told, two, write, write_error)

DONE = answer(0x19)


def laid(table, *calls):
    """What 18H with 1 answers behind these calls, and the values then."""
    gets = [get(handle) for handle in range(1, len(table) + 1)]
    given = told(*table, *calls, end(1), *gets)
    return given[len(table) + len(calls):]


class Wait(unittest.TestCase):
    def test_the_answer_is_the_rest_as_it_came(self):
        table = [add(4, 2, [1]), add(4, 2, [2])]
        for place in (0, 1, 2, 255, 256, 513, 65535):
            for value in ([], [9], [9, 0, 255], [7] * 18):
                with self.subTest(place=place, value=value):
                    self.assertEqual(last(*table, piece(2, place, value)),
                                     answer(0x17, 2, 0, *two(place), *value))

    def test_the_value_is_as_it_was(self):
        given = told(add(4, 3, [1]), piece(1, 0, [9]), get(1), read(1))
        self.assertEqual(given[2:], [[1, 1], answer(0x0B, 1)])

    def test_handles_that_are_not_there(self):
        for handle in (0, 2, 256, 257, 65535):
            with self.subTest(handle=handle):
                self.assertEqual(last(add(4, 2, [1]), piece(handle, 0, [9])), error(0x16, handle, 1))

    def test_rights(self):
        for rights in range(32):
            for safe in (0, 1):
                with self.subTest(rights=rights, safe=safe):
                    why = write_error(rights, safe)
                    table = [link(safe), add(1, 2, [4]), add(1, rights, [5])]
                    given = told(*table, piece(2, 0, [9]), end(1), get(2))
                    wanted = [answer(0x17, 2, 0, 0, 0, 9), DONE, [1, 9]]
                    if why:
                        wanted = [error(0x16, 2, why), DONE, [1, 5]]
                    self.assertEqual(given[3:], wanted)

    def test_the_seventeenth(self):
        table = [add(512, 2, []), add(4, 2, [])]
        sixteen = [piece(1, place, [place]) for place in range(16)]
        given = told(*table, *sixteen, piece(1, 16, [16]), piece(2, 0, []), piece(2, 0, [9]), end(1), get(1), get(2))
        self.assertEqual(given[2:18], [answer(0x17, 1, 0, place, 0, place) for place in range(16)])
        self.assertEqual(given[18:], [error(0x16, 1, 9), error(0x16, 2, 9), error(0x16, 2, 9), DONE,
                                      [16] + counted(16), [0]])

    def test_what_else_is_wrong_counts_ahead_of_the_seventeenth(self):
        table = [add(512, 2, []), add(4, 0, []), add(4, 10, [])] + [piece(1, 0, [])] * 16
        self.assertEqual(last(*table, piece(1, 0, [])), error(0x16, 1, 9))
        self.assertEqual(last(*table, piece(2, 0, [])), error(0x16, 2, 3))
        self.assertEqual(last(*table, piece(3, 0, [])), error(0x16, 3, 5))
        self.assertEqual(last(*table, piece(4, 0, [])), error(0x16, 4, 1))
        self.assertEqual(last(*table, message([0x16, 1, 0, 0])), error(0x16, 0, 4))

    def test_sixteen_again_behind_the_end(self):
        sixteen = [piece(1, 0, [])] * 16
        for calls in ([end(0)], [end(1)], [link(0)], [piece(1, 9, []), end(1)]):
            with self.subTest(calls=calls):
                given = told(add(4, 2, []), *sixteen, *calls, *sixteen, piece(1, 0, []))
                self.assertEqual(given[-17:], [answer(0x17, 1, 0, 0, 0)] * 16 + [error(0x16, 1, 9)])

    def test_refused_pieces_do_not_wait(self):
        refused = [piece(2, 0, [9]), piece(3, 0, [9]), message([0x16, 1, 0, 0])] * 10
        given = told(add(4, 2, []), add(4, 0, [1]), *refused, *[piece(1, 0, [9])] * 16, piece(1, 0, []), end(1),
                     get(1), get(2))
        self.assertEqual(given[-4:], [error(0x16, 1, 9), DONE, [1, 9], [1, 1]])


class End(unittest.TestCase):
    TABLE = [add(8, 2, [1, 2, 3]), add(8, 2, [4, 5, 6])]

    def test_with_nothing_that_waits(self):
        for how in (0, 1):
            with self.subTest(how=how):
                given = told(*self.TABLE, end(how), get(1), get(2))
                self.assertEqual(given[2:], [DONE, [3, 1, 2, 3], [3, 4, 5, 6]])

    def test_0_forgets_all(self):
        given = told(*self.TABLE, piece(1, 0, [9]), piece(2, 0, [9]), end(0), get(1), get(2), end(1), get(1), get(2))
        values = [[3, 1, 2, 3], [3, 4, 5, 6]]
        self.assertEqual(given[4:], [DONE, *values, DONE, *values])

    def test_0_forgets_what_cannot_be_laid(self):
        self.assertEqual(told(*self.TABLE, piece(1, 99, [9]), end(0), end(1))[3:], [DONE, DONE])

    def test_another_number_is_a_wrong_length(self):
        for how in (2, 3, 128, 255):
            with self.subTest(how=how):
                given = told(*self.TABLE, piece(1, 0, [9]), end(how), get(1), end(1), get(1))
                self.assertEqual(given[3:], [error(0x18, 0, 4), [3, 1, 2, 3], DONE, [3, 9, 2, 3]])

    def test_pieces_are_laid_once(self):
        given = told(*self.TABLE, piece(1, 3, [9]), end(1), put(1, [0, 0, 0]), end(1), get(1))
        self.assertEqual(given[3:], [DONE, [0], DONE, [3, 0, 0, 0]])


class Lay(unittest.TestCase):
    TABLE = [add(8, 2, [1, 2, 3]), add(8, 2, [4, 5, 6])]

    def test_one_piece(self):
        for place, value, wanted in ((0, [9], [9, 2, 3]), (1, [9], [1, 9, 3]), (2, [9], [1, 2, 9]),
                                     (3, [9], [1, 2, 3, 9]), (0, [9, 8, 7], [9, 8, 7]), (1, [9, 8], [1, 9, 8]),
                                     (2, [9, 8], [1, 2, 9, 8]), (0, [9, 8, 7, 6], [9, 8, 7, 6]), (0, [], [1, 2, 3]),
                                     (2, [], [1, 2, 3]), (3, [], [1, 2, 3]), (3, [9] * 5, [1, 2, 3] + [9] * 5),
                                     (0, [9] * 8, [9] * 8)):
            with self.subTest(place=place, value=value):
                self.assertEqual(laid(self.TABLE, piece(1, place, value)), [DONE, answer(*wanted), [3, 4, 5, 6]])

    def test_a_place_behind_the_end(self):
        for place in (4, 5, 8, 9, 255, 256, 259, 65535):
            for value in ([], [9], [9] * 18):
                with self.subTest(place=place, value=value):
                    self.assertEqual(laid(self.TABLE, piece(2, place, value)),
                                     [error(0x18, 2, 7), [3, 1, 2, 3], [3, 4, 5, 6]])

    def test_longer_than_the_most(self):
        for place, length in ((0, 9), (1, 8), (2, 7), (3, 6), (3, 18)):
            with self.subTest(place=place, length=length):
                self.assertEqual(laid(self.TABLE, piece(2, place, [9] * length)),
                                 [error(0x18, 2, 13), [3, 1, 2, 3], [3, 4, 5, 6]])

    def test_one_behind_another(self):
        self.assertEqual(laid(self.TABLE, piece(1, 3, [9]), piece(1, 4, [8]), piece(1, 5, [7, 6])),
                         [DONE, [7, 1, 2, 3, 9, 8, 7, 6], [3, 4, 5, 6]])

    def test_the_order_counts(self):
        self.assertEqual(laid(self.TABLE, piece(1, 4, [8]), piece(1, 3, [9])),
                         [error(0x18, 1, 7), [3, 1, 2, 3], [3, 4, 5, 6]])

    def test_one_over_another(self):
        self.assertEqual(laid(self.TABLE, piece(1, 0, [9, 9, 9, 9]), piece(1, 1, [8, 8])),
                         [DONE, [4, 9, 8, 8, 9], [3, 4, 5, 6]])
        self.assertEqual(laid(self.TABLE, piece(1, 1, [8, 8]), piece(1, 0, [9, 9, 9, 9])),
                         [DONE, [4, 9, 9, 9, 9], [3, 4, 5, 6]])

    def test_several_values_by_turns(self):
        self.assertEqual(laid(self.TABLE, piece(2, 3, [9]), piece(1, 0, [8]), piece(2, 4, [7]), piece(1, 1, [6])),
                         [DONE, [3, 8, 6, 3], [5, 4, 5, 6, 9, 7]])

    def test_an_error_at_a_later_piece_changes_nothing(self):
        good = [piece(1, 0, [9]), piece(2, 3, [8])]
        for wrong, why in ((piece(1, 4, []), 7), (piece(1, 3, [9] * 6), 13), (piece(2, 5, [9]), 7),
                           (piece(2, 4, [9] * 5), 13)):
            for calls in ([*good, wrong], [good[0], good[1], wrong, good[0]]):
                with self.subTest(wrong=wrong, calls=len(calls)):
                    given = laid(self.TABLE, *calls, end(1), get(1), get(2))
                    values = [[3, 1, 2, 3], [3, 4, 5, 6]]
                    # The second time nothing waits any more.
                    self.assertEqual(given, [DONE, *values])
                    given = laid(self.TABLE, *calls)
                    self.assertEqual(given, [error(0x18, wrong[3], why), *values])

    def test_the_first_error_counts(self):
        self.assertEqual(laid(self.TABLE, piece(2, 0, [9] * 9), piece(1, 9, []))[0], error(0x18, 2, 13))
        self.assertEqual(laid(self.TABLE, piece(1, 9, []), piece(2, 0, [9] * 9))[0], error(0x18, 1, 7))
        self.assertEqual(laid(self.TABLE, piece(1, 9, [9] * 9))[0], error(0x18, 1, 7))

    def test_too_long_for_a_while_is_an_error_too(self):
        # A value never gets shorter, so a later piece can't mend it.
        self.assertEqual(laid(self.TABLE, piece(1, 0, [9] * 9), piece(1, 0, [8])),
                         [error(0x18, 1, 13), [3, 1, 2, 3], [3, 4, 5, 6]])

    def test_over_the_value_it_has_then(self):
        given = told(*self.TABLE, piece(1, 3, [9]), put(1, [7]), end(1), get(1))
        self.assertEqual(given[3:], [[0], error(0x18, 1, 7), [1, 7]])
        given = told(*self.TABLE, piece(1, 3, [9]), write(1, [7] * 5), end(1), get(1))
        self.assertEqual(given[3:], [answer(0x13), DONE, [5, 7, 7, 7, 9, 7]])
        given = told(*self.TABLE, piece(1, 4, [9]), put(1, [7] * 4), end(1), get(1))
        self.assertEqual(given[3:], [[0], DONE, [5, 7, 7, 7, 7, 9]])

    def test_right_16(self):
        table = [add(4, 18, [1, 2, 3, 4]), add(4, 2, [5])]
        whole = [[4, 1, 2, 3, 4], [1, 5]]
        self.assertEqual(laid(table, piece(1, 0, [9] * 4)), [DONE, [4, 9, 9, 9, 9], [1, 5]])
        self.assertEqual(laid(table, piece(1, 1, [9])), [DONE, [4, 1, 9, 3, 4], [1, 5]])
        self.assertEqual(laid(table, piece(1, 4, [])), [DONE, *whole])
        self.assertEqual(laid(table, piece(1, 4, [9])), [error(0x18, 1, 13), *whole])
        self.assertEqual(laid(table, piece(1, 5, [])), [error(0x18, 1, 7), *whole])
        self.assertEqual(laid(table, piece(2, 1, [9]), piece(1, 2, [9] * 3)), [error(0x18, 1, 13), *whole])

    def test_a_length_that_cannot_be_behind_all_pieces(self):
        # No call makes such values, as one with right 16 has the most bytes from its beginning on
        # and pieces don't shorten it; so the device is given them by hand.
        device = Device()
        for handle, most, rights in ((1, 4, 2), (2, 4, 18), (3, 4, 18)):
            device.attributes.append(Attribute(handle, [0, 42], [7], most, rights))
        for handle in (1, 3, 2):
            take_message(device, piece(handle, 1, [9])[2:])
        self.assertEqual(take_message(device, [0x18, 1]), error(0x18, 3, 13))
        self.assertEqual([attribute.value for attribute in device.attributes], [[7], [7], [7]])
        for handle in (3, 2):
            take_message(device, piece(handle, 1, [9] * 3)[2:])
        self.assertEqual(take_message(device, [0x18, 1]), DONE)
        self.assertEqual([attribute.value for attribute in device.attributes], [[7], [7, 9, 9, 9], [7, 9, 9, 9]])

    def test_no_bytes_at_the_most(self):
        for rights in (2, 18):
            with self.subTest(rights=rights):
                table = [add(0, rights, [])]
                self.assertEqual(laid(table, piece(1, 0, [])), [DONE, [0]])
                self.assertEqual(laid(table, piece(1, 0, [1])), [error(0x18, 1, 13), [0]])
                self.assertEqual(laid(table, piece(1, 1, [])), [error(0x18, 1, 7), [0]])

    def test_512_bytes(self):
        calls = [agree(247)] + [piece(1, place, [7] * 128) for place in range(0, 512, 128)]
        self.assertEqual(laid([add(512, 2, [])], *calls), [DONE, [512] + [7] * 512])
        self.assertEqual(laid([add(511, 2, [])], *calls), [error(0x18, 1, 13), [0]])
        self.assertEqual(laid([add(512, 2, [])], *calls, piece(1, 512, []))[0], DONE)
        self.assertEqual(laid([add(512, 2, [])], *calls, piece(1, 512, [1])), [error(0x18, 1, 13), [0]])
        self.assertEqual(laid([add(512, 2, [])], *calls, piece(1, 300, [8]))[1], [512] + [7] * 300 + [8] + [7] * 211)

    def test_the_same_value_keeps_its_own_bytes(self):
        # What was answered or waits is no part of what is changed later on.
        given = told(*self.TABLE, piece(1, 0, [9]), get(1), end(1), get(1), piece(1, 1, [8]), end(1), get(1))
        self.assertEqual(given[3:], [[3, 1, 2, 3], DONE, [3, 9, 2, 3], answer(0x17, 1, 0, 1, 0, 8), DONE,
                                     [3, 9, 8, 3]])


class Between(unittest.TestCase):
    def test_other_messages_leave_what_waits(self):
        for call in (read(1), write(1, [7]), quiet(1, [7]), find_kinds(1, 1), agree(50), confirm(), message([]),
                     message([0x20]), message([0x40]), read(9), tell(1, 0), tell(1, 1), put(1, [7]), get(1),
                     add(4, 0, [])):
            with self.subTest(call=call):
                given = told(add(8, 7, [1]), piece(1, 0, [9, 9]), call, end(1), get(1))
                self.assertEqual(given[3:], [DONE, [2, 9, 9]])

    def test_a_new_link_forgets(self):
        given = told(add(8, 7, [1]), piece(1, 0, [9]), link(1), end(1), get(1), message([]))
        self.assertEqual(given[2:], [[0], DONE, [1, 1], NOTHING])


if __name__ == "__main__":
    unittest.main()
