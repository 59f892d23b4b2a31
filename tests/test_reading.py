"""Messages 0AH, 0CH and 0EH: values by their handles."""

import unittest

from tests.calls import (add, agree, answer, counted, error, last, link, message, put, read, read_error, rest, several,
                         told, write)

LENGTHS = range(23, 248)


class Read(unittest.TestCase):
    def test_the_value(self):
        table = [add(4, 1, [1]), add(4, 1, [2, 0, 255]), add(4, 1, [])]
        self.assertEqual(told(*table, read(2), read(1), read(3))[3:],
                         [answer(0x0B, 2, 0, 255), answer(0x0B, 1), answer(0x0B)])

    def test_the_value_it_has_now(self):
        table = [add(4, 3, [1])]
        self.assertEqual(last(*table, put(1, [2, 3]), read(1)), answer(0x0B, 2, 3))
        self.assertEqual(last(*table, write(1, []), read(1)), answer(0x0B))

    def test_handles_that_are_not_there(self):
        for handle in (0, 2, 3, 256, 257, 65535):
            with self.subTest(handle=handle):
                self.assertEqual(last(add(4, 1, [1]), read(handle)), error(0x0A, handle, 1))

    def test_rights(self):
        for rights in range(32):
            for safe in (0, 1):
                with self.subTest(rights=rights, safe=safe):
                    why = read_error(rights, safe)
                    wanted = error(0x0A, 2, why) if why else answer(0x0B, 5)
                    self.assertEqual(last(link(safe), add(1, 1, [4]), add(1, rights, [5]), read(2)), wanted)

    def test_as_much_as_fits(self):
        for length in LENGTHS:
            for size in (0, length - 4, length - 3, length - 2, length - 1, length, 253, 512):
                with self.subTest(length=length, size=size):
                    given = last(add(512, 1, counted(size)), agree(length), read(1))
                    self.assertEqual(given, answer(0x0B, *counted(size)[:length - 1]))


class Rest(unittest.TestCase):
    def test_from_each_place_on(self):
        table = [add(9, 1, [9]), add(9, 1, [1, 2, 3, 4])]
        for place in range(5):
            with self.subTest(place=place):
                self.assertEqual(last(*table, rest(2, place)), answer(0x0D, *[1, 2, 3, 4][place:]))

    def test_a_place_behind_the_end(self):
        table = [add(9, 1, [9]), add(9, 1, [1, 2, 3, 4])]
        for place in (5, 6, 9, 10, 255, 256, 260, 65535):
            with self.subTest(place=place):
                self.assertEqual(last(*table, rest(2, place)), error(0x0C, 2, 7))

    def test_a_value_of_no_bytes(self):
        self.assertEqual(last(add(4, 1, []), rest(1, 0)), answer(0x0D))
        self.assertEqual(last(add(4, 1, []), rest(1, 1)), error(0x0C, 1, 7))

    def test_places_of_two_bytes(self):
        table = [add(512, 1, counted(512, 3))]
        for place in (255, 256, 257, 300, 490, 500, 511, 512):
            with self.subTest(place=place):
                self.assertEqual(last(*table, rest(1, place)), answer(0x0D, *counted(512, 3)[place:place + 22]))
        self.assertEqual(last(*table, rest(1, 513)), error(0x0C, 1, 7))

    def test_as_much_as_fits(self):
        value = counted(512)
        for length in LENGTHS:
            for place in (0, 1, 7, 512 - length, 513 - length, 514 - length, 512):
                with self.subTest(length=length, place=place):
                    given = last(add(512, 1, value), agree(length), rest(1, place))
                    self.assertEqual(given, answer(0x0D, *value[place:place + length - 1]))

    def test_rights(self):
        for rights in range(32):
            for safe in (0, 1):
                with self.subTest(rights=rights, safe=safe):
                    table = [link(safe), add(1, 1, [4]), add(2, rights, [5, 6])]
                    why = read_error(rights, safe)
                    self.assertEqual(last(*table, rest(2, 1)), error(0x0C, 2, why) if why else answer(0x0D, 6))
                    # Whether it's read counts ahead of the place.
                    self.assertEqual(last(*table, rest(2, 3)), error(0x0C, 2, why or 7))

    def test_a_handle_that_is_not_there_counts_ahead_of_the_place(self):
        for handle in (0, 2, 256, 65535):
            for place in (0, 1, 2, 65535):
                with self.subTest(handle=handle, place=place):
                    self.assertEqual(last(add(4, 1, [1]), rest(handle, place)), error(0x0C, handle, 1))

    def test_a_value_read_piece_by_piece(self):
        value = counted(100, 50)
        whole = []
        for place in range(0, 101, 22):
            whole += last(add(512, 1, value), rest(1, place))[2:]
        self.assertEqual(whole, value)


class Several(unittest.TestCase):
    TABLE = [add(4, 1, [1, 2]), add(4, 1, []), add(4, 1, [3]), add(4, 0, [4]), add(4, 9, [5])]

    def test_one_behind_the_other(self):
        self.assertEqual(last(*self.TABLE, several(1, 3)), answer(0x0F, 1, 2, 3))
        self.assertEqual(last(*self.TABLE, several(3, 1)), answer(0x0F, 3, 1, 2))
        self.assertEqual(last(*self.TABLE, several(1, 2, 3, 3, 1)), answer(0x0F, 1, 2, 3, 3, 1, 2))
        self.assertEqual(last(*self.TABLE, several(2, 2)), answer(0x0F))

    def test_two_handles_at_the_least(self):
        self.assertEqual(last(*self.TABLE, several()), error(0x0E, 0, 4))
        self.assertEqual(last(*self.TABLE, several(1)), error(0x0E, 0, 4))
        self.assertEqual(last(*self.TABLE, message([0x0E, 1, 0, 3])), error(0x0E, 0, 4))
        self.assertEqual(last(*self.TABLE, message([0x0E, 1, 0, 3, 0, 1])), error(0x0E, 0, 4))

    def test_the_first_error_counts(self):
        for handles, handle, why in (((1, 4), 4, 2), ((4, 1), 4, 2), ((1, 5), 5, 5), ((1, 6), 6, 1), ((0, 1), 0, 1),
                                     ((4, 5), 4, 2), ((5, 4), 5, 5), ((6, 4), 6, 1), ((4, 6), 4, 2), ((5, 6), 5, 5),
                                     ((1, 2, 3, 65535, 4), 65535, 1), ((1, 2, 3, 5, 0), 5, 5)):
            with self.subTest(handles=handles):
                self.assertEqual(last(*self.TABLE, several(*handles)), error(0x0E, handle, why))

    def test_rights(self):
        for rights in range(32):
            for safe in (0, 1):
                with self.subTest(rights=rights, safe=safe):
                    why = read_error(rights, safe)
                    wanted = error(0x0E, 2, why) if why else answer(0x0F, 4, 5)
                    self.assertEqual(last(link(safe), add(1, 1, [4]), add(1, rights, [5]), several(1, 2)), wanted)

    def test_as_much_as_fits(self):
        for length in LENGTHS:
            for size in (length - 4, length - 3, length - 2, length - 1, length, 253, 512):
                with self.subTest(length=length, size=size):
                    table = [add(512, 1, counted(size)), add(4, 1, [7, 8]), add(4, 1, [9])]
                    values = counted(size) + [7, 8, 9]
                    given = last(*table, agree(length), several(1, 2, 3))
                    self.assertEqual(given, answer(0x0F, *values[:length - 1]))

    def test_an_error_behind_what_fits_counts_too(self):
        table = [add(512, 1, counted(100)), add(4, 0, [1])]
        self.assertEqual(last(*table, several(1, 2)), error(0x0E, 2, 2))
        self.assertEqual(last(*table, several(1, 1, 3)), error(0x0E, 3, 1))


if __name__ == "__main__":
    unittest.main()
