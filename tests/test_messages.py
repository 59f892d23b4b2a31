"""Promise 4, what all messages share: their lengths, ranges, and which are known; and message 02."""

import unittest

from tests.calls import (GREATEST, NOTHING, add, agree, answer, by_kind, confirm, counted, error, find_kinds,
                         find_value, get, groups, last, link, long, message, piece, put, quiet, read, several,
                         tell, told, two, write, KIND, OTHER, SECOND, SERVICE)

KNOWN = (0x02, 0x04, 0x06, 0x08, 0x0A, 0x0C, 0x0E, 0x10, 0x12, 0x16, 0x18, 0x1E, 0x52)

LENGTHS = {
    0x02: lambda length: length == 3,
    0x04: lambda length: length == 5,
    0x06: lambda length: length >= 7,
    0x08: lambda length: length in (7, 21),
    0x0A: lambda length: length == 3,
    0x0C: lambda length: length == 5,
    0x0E: lambda length: length >= 5 and length % 2 == 1,
    0x10: lambda length: length in (7, 21),
    0x12: lambda length: length >= 3,
    0x16: lambda length: length >= 5,
    0x18: lambda length: length == 2,
}

AGREED = answer(0x03, 247, 0)


def length_now(*calls):
    """L behind these calls, seen by how much of a long value is answered."""
    return last(add(512, 1, counted(512)), *calls, read(1))[0]


class Lengths(unittest.TestCase):
    def test_each_length_of_each_message(self):
        # All zeros behind the first byte: every length that can be leads to what is told of handle 0.
        for first, can_be in LENGTHS.items():
            for length in (*range(1, 60), 246, 247):
                with self.subTest(first=first, length=length):
                    wanted = error(first, 0, 1)
                    if first == 0x02:
                        wanted = AGREED
                    if first == 0x18:
                        wanted = answer(0x19)
                    if not can_be(length):
                        wanted = error(first, 0, 4)
                    given = last(agree(247), message([first] + [0] * (length - 1)))
                    self.assertEqual(given, wanted)

    def test_length_counts_ahead_of_what_else_is_wrong(self):
        for first, can_be in LENGTHS.items():
            for length in range(1, 24):
                if not can_be(length):
                    with self.subTest(first=first, length=length):
                        given = last(add(4, 0, [1]), message([first] + [9] * (length - 1)))
                        self.assertEqual(given, error(first, 0, 4))

    def test_a_wrong_length_changes_nothing(self):
        table = [add(4, 7, [1]), piece(1, 0, [9])]
        for numbers in ([0x02, 50], [0x02, 50, 0, 0], [0x12, 1], [0x16, 1, 0, 0], [0x18], [0x18, 1, 0],
                        [0x18, 2], [0x52, 1], [0x52]):
            with self.subTest(numbers=numbers):
                given = told(*table, message(numbers), get(1), message([0x18, 1]), get(1))
                self.assertEqual(given[3:], [[1, 1], answer(0x19), [1, 9]])
                self.assertEqual(length_now(message(numbers)), 23)


class Ranges(unittest.TestCase):
    TABLE = [add(4, 1, [7], SERVICE), add(4, 1, [7], KIND), add(4, 1, [7], SERVICE), add(4, 1, [7], KIND)]
    ASKED = {
        0x04: lambda first, end: find_kinds(first, end),
        0x06: lambda first, end: find_value(first, end, SERVICE, [7]),
        0x08: lambda first, end: by_kind(first, end, SERVICE),
        0x10: lambda first, end: groups(first, end, SERVICE),
    }

    def test_wrong_ranges_are_1_at_a(self):
        for code, asked in self.ASKED.items():
            for first, end in ((0, 0), (0, 4), (0, 65535), (2, 1), (4, 3), (5, 4), (3, 0), (300, 299),
                               (256, 255), (65535, 65534), (65535, 0), (0x0201, 0x0102)):
                with self.subTest(code=code, first=first, end=end):
                    self.assertEqual(last(*self.TABLE, asked(first, end)), error(code, first, 1))
                    self.assertEqual(last(asked(first, end)), error(code, first, 1))

    def test_nothing_in_a_range_is_10_at_a(self):
        for code, asked in self.ASKED.items():
            for first, end in ((5, 5), (5, 65535), (256, 256), (300, 301), (0x0102, 0x0201), (65535, 65535)):
                with self.subTest(code=code, first=first, end=end):
                    self.assertEqual(last(*self.TABLE, asked(first, end)), error(code, first, 10))
            with self.subTest(code=code):
                self.assertEqual(last(asked(1, 65535)), error(code, 1, 10))

    def test_one_handle_is_a_range(self):
        self.assertEqual(last(*self.TABLE, find_kinds(3, 3)), answer(5, 1, 3, 0, 0, 0x28))
        self.assertEqual(last(*self.TABLE, find_value(3, 3, SERVICE, [7])), answer(7, 3, 0, 4, 0))
        self.assertEqual(last(*self.TABLE, by_kind(3, 3, SERVICE)), answer(9, 3, 3, 0, 7))
        self.assertEqual(last(*self.TABLE, groups(3, 3, SERVICE)), answer(0x11, 5, 3, 0, 4, 0, 7))

    def test_ends_of_a_range_belong_to_it(self):
        kinds = [1, 0, 0, 0x28, 2, 0, *KIND, 3, 0, 0, 0x28, 4, 0, *KIND]
        first_group = [1, 0, 2, 0]
        second_group = [3, 0, 4, 0]
        for first, end, found in ((1, 4, first_group + second_group), (1, 5, first_group + second_group),
                                  (1, 65535, first_group + second_group), (1, 3, first_group + second_group),
                                  (1, 2, first_group), (1, 1, first_group), (2, 4, second_group),
                                  (2, 3, second_group)):
            with self.subTest(first=first, end=end):
                handles = found[::4]
                self.assertEqual(last(*self.TABLE, find_kinds(first, end)),
                                 answer(5, 1, *kinds[4 * first - 4:4 * end]))
                self.assertEqual(last(*self.TABLE, find_value(first, end, SERVICE, [7])), answer(7, *found))
                values = [number for handle in handles for number in (handle, 0, 7)]
                self.assertEqual(last(*self.TABLE, by_kind(first, end, SERVICE)), answer(9, 3, *values))
                values = [number for handle in handles for number in (handle, 0, handle + 1, 0, 7)]
                self.assertEqual(last(*self.TABLE, groups(first, end, SERVICE)), answer(0x11, 5, *values))

    def test_a_wrong_range_counts_ahead_of_the_kind(self):
        self.assertEqual(last(*self.TABLE, groups(0, 4, KIND)), error(0x10, 0, 1))
        self.assertEqual(last(*self.TABLE, groups(3, 2, KIND)), error(0x10, 3, 1))
        self.assertEqual(last(add(4, 0, [7]), by_kind(0, 4, KIND)), error(0x08, 0, 1))

    def test_handles_of_two_bytes(self):
        table = [add(1, 1, [number % 256], SERVICE if number == 255 else KIND) for number in range(256)]
        self.assertEqual(last(*table, find_kinds(256, 256)), answer(5, 1, 0, 1, 0, 0x28))
        self.assertEqual(last(*table, find_value(1, 256, SERVICE, [255])), answer(7, 0, 1, 0, 1))
        self.assertEqual(last(*table, by_kind(1, 256, SERVICE)), answer(9, 3, 0, 1, 255))
        self.assertEqual(last(*table, groups(1, 256, SERVICE)), answer(0x11, 5, 0, 1, 0, 1, 255))
        self.assertEqual(last(*table, read(256)), answer(0x0B, 255))
        self.assertEqual(last(*table, read(257)), error(0x0A, 257, 1))


class Agree(unittest.TestCase):
    def test_the_answer_is_always_the_same(self):
        for length in (0, 1, 22, 23, 24, 100, 246, 247, 248, 255, 256, 65535):
            with self.subTest(length=length):
                self.assertEqual(told(agree(length)), [AGREED])

    def test_what_l_is_afterwards(self):
        for asked, wanted in ((0, 23), (1, 23), (22, 23), (23, 23), (24, 24), (25, 25), (100, 100), (101, 101),
                              (245, 245), (246, 246), (247, 247), (248, 247), (255, 247), (256, 247), (257, 247),
                              (512, 247), (65535, 247)):
            with self.subTest(asked=asked):
                self.assertEqual(length_now(agree(asked)), wanted)

    def test_l_is_23_at_first(self):
        self.assertEqual(length_now(), 23)

    def test_the_last_one_counts(self):
        self.assertEqual(length_now(agree(100), agree(50)), 50)
        self.assertEqual(length_now(agree(50), agree(100)), 100)
        self.assertEqual(length_now(agree(100), agree(0)), 23)

    def test_nothing_else_is_changed(self):
        table = [link(1), add(8, 15, [1]), piece(1, 0, [9]), tell(1, 1), agree(100)]
        given = told(*table, tell(1, 1), read(1), message([0x18, 1]), get(1))
        self.assertEqual(given[5:], [[-2], answer(0x0B, 1), answer(0x19), [1, 9]])


class TooLong(unittest.TestCase):
    def test_longer_than_l(self):
        for length in (23, 24, 100, 247):
            for first in range(256):
                silent = first & 64 or first == 0x1E
                wanted = NOTHING if silent else error(first, 0, 4)
                for more in (1, 2, 3):
                    with self.subTest(length=length, first=first, more=more):
                        given = last(agree(length), message([first] + [0] * (length + more - 1)))
                        self.assertEqual(given, wanted)

    def test_512_bytes(self):
        for first in (*KNOWN, 0x00, 0x40, 0xFF):
            silent = first & 64 or first == 0x1E
            with self.subTest(first=first):
                wanted = NOTHING if silent else error(first, 0, 4)
                self.assertEqual(told(message([first] + [1] * 511)), [wanted])

    def test_more_than_512_bytes_are_refused(self):
        self.assertEqual(told(add(4, 7, [1]), message([0x52, 1, 0] + [9] * 510), get(1)), [[1], [-1], [1, 1]])

    def test_nothing_is_done(self):
        table = [add(512, 7, [1]), piece(1, 0, [9]), tell(1, 1)]
        for numbers in ([0x12, 1, 0], [0x52, 1, 0], [0x16, 1, 0, 0, 0], [0x18, 0], [0x18, 1], [0x02, 50, 0], [0x1E]):
            numbers = numbers + [0] * (24 - len(numbers))
            with self.subTest(numbers=numbers):
                given = told(*table, message(numbers), get(1), tell(1, 1), message([0x18, 1]), get(1))
                self.assertEqual(given[4:], [[1, 1], [-2], answer(0x19), [1, 9]])
                self.assertEqual(length_now(message(numbers)), 23)

    def test_as_long_as_l(self):
        for length in (23, 24, 99, 247):
            value = counted(length - 3)
            with self.subTest(length=length):
                calls = [add(512, 6, []), agree(length)]
                self.assertEqual(told(*calls, write(1, value), get(1))[2:], [answer(0x13), [length - 3] + value])
                self.assertEqual(told(*calls, quiet(1, value), get(1))[2:], [NOTHING, [length - 3] + value])
                self.assertEqual(told(*calls, write(1, value + [0]), get(1))[2:], [error(0x12, 0, 4), [0]])
                self.assertEqual(told(*calls, quiet(1, value + [0]), get(1))[2:], [NOTHING, [0]])

    def test_long_messages_of_each_sort(self):
        self.assertEqual(last(add(20, 1, counted(16)), find_value(1, 1, KIND, counted(16))), answer(7, 1, 0, 1, 0))
        self.assertEqual(last(add(20, 1, counted(17)), find_value(1, 1, KIND, counted(17))), error(6, 0, 4))
        table = [add(1, 1, [number]) for number in range(11)]
        self.assertEqual(last(*table, several(*range(1, 12))), answer(0x0F, *range(11)))
        self.assertEqual(last(*table, several(*range(1, 12), 1)), error(0x0E, 0, 4))
        table = [add(512, 2, [])]
        self.assertEqual(last(*table, piece(1, 0, counted(18))), answer(0x17, 1, 0, 0, 0, *counted(18)))
        self.assertEqual(last(*table, piece(1, 0, counted(19))), error(0x16, 0, 4))


class Others(unittest.TestCase):
    def test_every_other_first_byte(self):
        for first in range(256):
            if first not in KNOWN:
                for numbers in ([], [0], [1, 0], [0] * 22):
                    with self.subTest(first=first, numbers=numbers):
                        wanted = NOTHING if first & 64 else error(first, 0, 6)
                        self.assertEqual(told(message([first] + numbers)), [wanted])

    def test_nothing_is_done(self):
        # A signed write is none of the device's.
        for first in (0xD2, 0x13, 0x92, 0x53, 0x20, 0x9E, 0x5E):
            with self.subTest(first=first):
                given = told(add(4, 7, [1]), tell(1, 1), message([first, 1, 0, 9]), message([first]), get(1),
                             tell(1, 1))
                self.assertEqual(given[4:], [[1, 1], [-2]])

    def test_an_empty_message(self):
        self.assertEqual(told(message([])), [NOTHING])
        given = told(add(4, 7, [1]), tell(1, 1), piece(1, 0, [9]), message([]), get(1), tell(1, 1),
                     message([0x18, 1]), get(1))
        self.assertEqual(given[3:], [NOTHING, [1, 1], [-2], answer(0x19), [1, 9]])


class Errors(unittest.TestCase):
    def test_both_bytes_of_the_handle_are_told(self):
        for handle in (0, 2, 255, 256, 0x0102, 0xFF00, 65535):
            with self.subTest(handle=handle):
                table = [add(4, 7, [1])]
                self.assertEqual(last(*table, read(handle)), error(0x0A, handle, 1))
                self.assertEqual(last(*table, message([0x0C, *two(handle), 0, 0])), error(0x0C, handle, 1))
                self.assertEqual(last(*table, several(1, handle)), error(0x0E, handle, 1))
                self.assertEqual(last(*table, write(handle, [2])), error(0x12, handle, 1))
                self.assertEqual(last(*table, piece(handle, 0, [2])), error(0x16, handle, 1))
                self.assertEqual(told(*table, quiet(handle, [2]), get(1))[1:], [NOTHING, [1, 1]])

    def test_an_error_leaves_all_as_it_was(self):
        table = [add(4, 7, [1]), add(4, 0, [2]), piece(1, 0, [9]), tell(1, 1)]
        for call in (read(2), write(2, [3]), write(1, [3] * 5), piece(2, 0, [3]), piece(3, 0, [3]), several(1, 2),
                     message([0x0C, 1, 0, 2, 0]), by_kind(1, 2, OTHER), groups(1, 2, KIND), groups(1, 2, SECOND)):
            with self.subTest(call=call):
                given = told(*table, call, get(1), get(2), tell(1, 1), message([0x18, 1]), get(1), get(2), confirm(),
                             tell(1, GREATEST))
                self.assertEqual(given[4][:3], [5, 1, call[2]])
                self.assertEqual(given[5:], [[1, 1], [1, 2], [-2], answer(0x19), [1, 9], [1, 2], NOTHING,
                                             answer(0x1D, 1, 0, 9)])

    def test_the_kinds_of_error_need_no_attributes(self):
        self.assertEqual(told(read(1), write(1, []), piece(1, 0, []), several(1, 1), find_kinds(1, 1),
                              by_kind(1, 1, long(KIND)), put(1, [])),
                         [error(0x0A, 1, 1), error(0x12, 1, 1), error(0x16, 1, 1), error(0x0E, 1, 1),
                          error(4, 1, 10), error(8, 1, 10), [-1]])


if __name__ == "__main__":
    unittest.main()
