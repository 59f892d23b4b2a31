"""Messages 12H and 52H: a value is written, with an answer and quietly."""

import unittest

from tests.calls import (NOTHING, add, agree, answer, counted, error, get, last, link, message, quiet, told, write,
                         write_error)


class Write(unittest.TestCase):
    def test_it_is_the_value(self):
        table = [add(4, 2, [1]), add(4, 2, [2, 2, 2])]
        for value in ([], [9], [9, 0, 255], [9, 8, 7, 6]):
            with self.subTest(value=value):
                given = told(*table, write(2, value), get(2), get(1))
                self.assertEqual(given[2:], [answer(0x13), answer(*value), [1, 1]])

    def test_handles_that_are_not_there(self):
        for handle in (0, 2, 256, 257, 65535):
            with self.subTest(handle=handle):
                given = told(add(4, 2, [1]), write(handle, [9]), get(1))
                self.assertEqual(given[1:], [error(0x12, handle, 1), [1, 1]])

    def test_lengths_that_cannot_be(self):
        for length in (5, 6, 20):
            with self.subTest(length=length):
                given = told(add(4, 2, [1]), write(1, [9] * length), get(1))
                self.assertEqual(given[1:], [error(0x12, 1, 13), [1, 1]])

    def test_right_16(self):
        for length in (0, 1, 3, 5, 20):
            with self.subTest(length=length):
                given = told(add(4, 18, [1, 2, 3, 4]), write(1, [9] * length), get(1))
                self.assertEqual(given[1:], [error(0x12, 1, 13), [4, 1, 2, 3, 4]])
        given = told(add(4, 18, [1, 2, 3, 4]), write(1, [9] * 4), get(1))
        self.assertEqual(given[1:], [answer(0x13), [4, 9, 9, 9, 9]])

    def test_no_bytes_at_the_most(self):
        for rights in (2, 18):
            with self.subTest(rights=rights):
                given = told(add(0, rights, []), write(1, []), write(1, [1]), get(1))
                self.assertEqual(given[1:], [answer(0x13), error(0x12, 1, 13), [0]])

    def test_rights(self):
        for rights in range(32):
            for safe in (0, 1):
                with self.subTest(rights=rights, safe=safe):
                    why = write_error(rights, safe)
                    table = [link(safe), add(1, 2, [4]), add(1, rights, [5])]
                    given = told(*table, write(2, [9]), get(2))
                    self.assertEqual(given[3:], [error(0x12, 2, why), [1, 5]] if why else [answer(0x13), [1, 9]])
                    # Whether it's written counts ahead of the length.
                    given = told(*table, write(2, [9, 9]), get(2))
                    self.assertEqual(given[3:], [error(0x12, 2, why or 13), [1, 5]])

    def test_a_handle_that_is_not_there_counts_ahead_of_the_length(self):
        self.assertEqual(last(add(0, 2, []), write(2, [9])), error(0x12, 2, 1))

    def test_long_values(self):
        for size in (243, 244):
            with self.subTest(size=size):
                given = told(add(512, 2, counted(512)), agree(247), write(1, counted(size, 9)), get(1))
                self.assertEqual(given[2:], [answer(0x13), [size] + counted(size, 9)])


class Quiet(unittest.TestCase):
    def test_it_is_the_value(self):
        table = [add(4, 4, [1]), add(4, 4, [2, 2, 2])]
        for value in ([], [9], [9, 0, 255], [9, 8, 7, 6]):
            with self.subTest(value=value):
                given = told(*table, quiet(2, value), get(2), get(1))
                self.assertEqual(given[2:], [NOTHING, answer(*value), [1, 1]])

    def test_handles_that_are_not_there(self):
        for handle in (0, 2, 256, 257, 65535):
            with self.subTest(handle=handle):
                given = told(add(4, 4, [1]), quiet(handle, [9]), get(1), get(2))
                self.assertEqual(given[1:], [NOTHING, [1, 1], [-1]])

    def test_no_handle(self):
        for numbers in ([0x52], [0x52, 1]):
            with self.subTest(numbers=numbers):
                self.assertEqual(told(add(4, 4, [1]), message(numbers), get(1))[1:], [NOTHING, [1, 1]])

    def test_lengths_that_cannot_be(self):
        for length in (5, 6, 20):
            with self.subTest(length=length):
                self.assertEqual(told(add(4, 4, [1]), quiet(1, [9] * length), get(1))[1:], [NOTHING, [1, 1]])

    def test_right_16(self):
        for length in (0, 1, 3, 4, 5, 20):
            with self.subTest(length=length):
                wanted = [9] * 4 if length == 4 else [1, 2, 3, 4]
                given = told(add(4, 20, [1, 2, 3, 4]), quiet(1, [9] * length), get(1))
                self.assertEqual(given[1:], [NOTHING, answer(*wanted)])

    def test_rights(self):
        for rights in range(32):
            for safe in (0, 1):
                with self.subTest(rights=rights, safe=safe):
                    written = rights & 4 and (safe or not rights & 8)
                    given = told(link(safe), add(1, 4, [4]), add(1, rights, [5]), quiet(2, [9]), get(2))
                    self.assertEqual(given[3:], [NOTHING, [1, 9] if written else [1, 5]])


if __name__ == "__main__":
    unittest.main()
