"""Messages 08 and 10H: values by kind, and groups."""

import unittest

from tests.calls import (KIND, OTHER, SECOND, SERVICE, add, agree, answer, by_kind, counted, error, groups, last,
                         link, long, put, read_error, two)

LENGTHS = range(23, 248)
OWN = counted(16, 100)


class ByKind(unittest.TestCase):
    def test_handles_and_values(self):
        table = [add(4, 1, [1, 2]), add(4, 1, [3, 4], OTHER), add(4, 1, [5, 6]), add(4, 0, [7, 8], OTHER),
                 add(4, 1, [9, 0])]
        self.assertEqual(last(*table, by_kind(1, 5, KIND)), answer(9, 4, 1, 0, 1, 2, 3, 0, 5, 6, 5, 0, 9, 0))
        self.assertEqual(last(*table, by_kind(2, 4, KIND)), answer(9, 4, 3, 0, 5, 6))
        self.assertEqual(last(*table, by_kind(1, 5, OTHER)), answer(9, 4, 2, 0, 3, 4))

    def test_none(self):
        table = [add(4, 1, [1]), add(4, 1, [1], OTHER)]
        self.assertEqual(last(*table, by_kind(1, 2, SERVICE)), error(8, 1, 10))
        self.assertEqual(last(*table, by_kind(1, 2, OWN)), error(8, 1, 10))
        self.assertEqual(last(*table, by_kind(2, 2, KIND)), error(8, 2, 10))
        self.assertEqual(last(*table, by_kind(1, 1, OTHER)), error(8, 1, 10))

    def test_the_first_not_read_is_an_error_at_it(self):
        for rights in range(32):
            for safe in (0, 1):
                with self.subTest(rights=rights, safe=safe):
                    table = [link(safe), add(1, 1, [4], OTHER), add(1, rights, [5]), add(1, 1, [6])]
                    why = read_error(rights, safe)
                    wanted = error(8, 2, why) if why else answer(9, 3, 2, 0, 5, 3, 0, 6)
                    self.assertEqual(last(*table, by_kind(1, 3, KIND)), wanted)

    def test_up_to_the_first_that_is_not_read(self):
        for rights in range(32):
            for safe in (0, 1):
                with self.subTest(rights=rights, safe=safe):
                    table = [link(safe), add(1, 1, [4]), add(1, rights, [5]), add(1, 1, [6])]
                    wanted = [9, 3, 1, 0, 4]
                    if not read_error(rights, safe):
                        wanted += [2, 0, 5, 3, 0, 6]
                    self.assertEqual(last(*table, by_kind(1, 3, KIND)), answer(*wanted))

    def test_others_that_are_not_read_do_not_count(self):
        table = [add(1, 0, [4], OTHER), add(1, 1, [5]), add(1, 0, [4], OTHER), add(1, 1, [6])]
        self.assertEqual(last(*table, by_kind(1, 4, KIND)), answer(9, 3, 2, 0, 5, 4, 0, 6))

    def test_as_long_as_values_are_alike_in_length(self):
        for length in (0, 1, 3, 4, 40):
            with self.subTest(length=length):
                table = [add(40, 1, [1, 2]), add(40, 1, [3, 4]), add(40, 1, [5] * length), add(40, 1, [6, 7])]
                wanted = answer(9, 4, 1, 0, 1, 2, 2, 0, 3, 4)
                self.assertEqual(last(*table, by_kind(1, 4, KIND)), wanted)
                self.assertEqual(last(*table, by_kind(1, 3, KIND)), wanted)

    def test_a_longer_one_is_not_cut_to_the_first_ones_length(self):
        table = [add(512, 1, counted(8)), add(512, 1, counted(9)), add(512, 1, counted(8))]
        self.assertEqual(last(*table, by_kind(1, 3, KIND)), answer(9, 10, 1, 0, *counted(8)))

    def test_values_of_each_length_at_each_l(self):
        for length in LENGTHS:
            for size in (0, 1, 2, 7, 20, length - 5, length - 4, length - 3, 252, 253, 254, 512):
                with self.subTest(length=length, size=size):
                    count = 125 if size == 0 else 4
                    table = [add(512, 1, counted(size, number)) for number in range(count)]
                    cut = min(size, 253, length - 4)
                    fit = min(count, (length - 2) // (cut + 2))
                    wanted = [9, cut + 2]
                    for number in range(fit):
                        wanted += [number + 1, 0, *counted(cut, number)]
                    self.assertEqual(last(*table, agree(length), by_kind(1, count, KIND)), answer(*wanted))

    def test_as_many_as_fit(self):
        table = [add(9, 1, counted(3, number)) for number in range(60)]
        for length in LENGTHS:
            with self.subTest(length=length):
                wanted = [9, 5]
                for number in range((length - 2) // 5):
                    wanted += [number + 1, 0, *counted(3, number)]
                self.assertEqual(last(*table, agree(length), by_kind(1, 60, KIND)), answer(*wanted))

    def test_kinds_are_the_same_in_two_and_sixteen_bytes(self):
        table = [add(1, 1, [1], KIND), add(1, 1, [2], long(KIND)), add(1, 1, [3], OWN)]
        for kind in (KIND, long(KIND)):
            with self.subTest(kind=kind):
                self.assertEqual(last(*table, by_kind(1, 3, kind)), answer(9, 3, 1, 0, 1, 2, 0, 2))
        self.assertEqual(last(*table, by_kind(1, 3, OWN)), answer(9, 3, 3, 0, 3))

    def test_every_byte_of_a_long_kind_counts(self):
        for place in range(16):
            with self.subTest(place=place):
                own = list(OWN)
                own[place] ^= 128
                self.assertEqual(last(add(1, 1, [1], OWN), by_kind(1, 1, own)), error(8, 1, 10))
                other = long(KIND)
                other[place] ^= 128
                self.assertEqual(last(add(1, 1, [1], KIND), by_kind(1, 1, other)), error(8, 1, 10))

    def test_groups_are_found_too(self):
        table = [add(4, 1, [1, 2], SERVICE), add(4, 1, [3]), add(4, 1, [4, 5], SERVICE)]
        self.assertEqual(last(*table, by_kind(1, 3, SERVICE)), answer(9, 4, 1, 0, 1, 2, 3, 0, 4, 5))

    def test_the_value_it_has_now(self):
        self.assertEqual(last(add(4, 1, [1]), put(1, [2, 3]), by_kind(1, 1, KIND)), answer(9, 4, 1, 0, 2, 3))


class Groups(unittest.TestCase):
    TABLE = [add(4, 1, [1, 2], SERVICE), add(4, 1, [9]), add(4, 1, [3, 4], SECOND), add(4, 1, [5, 6], SERVICE),
             add(4, 1, [9]), add(4, 1, [9])]

    def test_handles_and_ends_and_values(self):
        self.assertEqual(last(*self.TABLE, groups(1, 6, SERVICE)),
                         answer(0x11, 6, 1, 0, 2, 0, 1, 2, 4, 0, 6, 0, 5, 6))
        self.assertEqual(last(*self.TABLE, groups(1, 6, SECOND)), answer(0x11, 6, 3, 0, 3, 0, 3, 4))
        self.assertEqual(last(*self.TABLE, groups(2, 4, SERVICE)), answer(0x11, 6, 4, 0, 6, 0, 5, 6))
        self.assertEqual(last(*self.TABLE, groups(1, 1, SERVICE)), answer(0x11, 6, 1, 0, 2, 0, 1, 2))

    def test_none(self):
        self.assertEqual(last(*self.TABLE, groups(5, 6, SERVICE)), error(0x10, 5, 10))
        self.assertEqual(last(*self.TABLE, groups(4, 6, SECOND)), error(0x10, 4, 10))
        self.assertEqual(last(*self.TABLE, groups(1, 2, SECOND)), error(0x10, 1, 10))

    def test_another_kind(self):
        for kind in (KIND, OTHER, [0x02, 0x28], [0xFF, 0x27], [0x28, 0x00], [0, 0], OWN, long(KIND),
                     long([0x02, 0x28]), [0] * 16):
            with self.subTest(kind=kind):
                self.assertEqual(last(*self.TABLE, groups(2, 6, kind)), error(0x10, 2, 16))
                self.assertEqual(last(*self.TABLE, groups(7, 9, kind)), error(0x10, 7, 16))
                self.assertEqual(last(groups(1, 1, kind)), error(0x10, 1, 16))

    def test_another_kind_counts_ahead_of_not_read(self):
        self.assertEqual(last(add(1, 0, [5]), groups(1, 1, KIND)), error(0x10, 1, 16))

    def test_kinds_are_the_same_in_two_and_sixteen_bytes(self):
        table = [add(1, 1, [1], SERVICE), add(1, 1, [2], long(SERVICE)), add(1, 1, [3], long(SECOND)), add(1, 1, [4])]
        for kind in (SERVICE, long(SERVICE)):
            with self.subTest(kind=kind):
                self.assertEqual(last(*table, groups(1, 4, kind)), answer(0x11, 5, 1, 0, 1, 0, 1, 2, 0, 2, 0, 2))
        for kind in (SECOND, long(SECOND)):
            with self.subTest(kind=kind):
                self.assertEqual(last(*table, groups(1, 4, kind)), answer(0x11, 5, 3, 0, 4, 0, 3))

    def test_every_byte_of_the_long_form_counts(self):
        for place in range(16):
            with self.subTest(place=place):
                kind = long(SERVICE)
                kind[place] ^= 128
                self.assertEqual(last(*self.TABLE, groups(1, 6, kind)), error(0x10, 1, 16))

    def test_the_first_not_read_is_an_error_at_it(self):
        for rights in range(32):
            for safe in (0, 1):
                with self.subTest(rights=rights, safe=safe):
                    table = [link(safe), add(1, 1, [4]), add(1, rights, [5], SERVICE), add(1, 1, [6], SERVICE)]
                    why = read_error(rights, safe)
                    wanted = error(0x10, 2, why) if why else answer(0x11, 5, 2, 0, 2, 0, 5, 3, 0, 3, 0, 6)
                    self.assertEqual(last(*table, groups(1, 3, SERVICE)), wanted)

    def test_up_to_the_first_that_is_not_read(self):
        for rights in range(32):
            for safe in (0, 1):
                with self.subTest(rights=rights, safe=safe):
                    table = [link(safe), add(1, 1, [4], SERVICE), add(1, rights, [5], SERVICE),
                             add(1, 1, [6], SERVICE)]
                    wanted = [0x11, 5, 1, 0, 1, 0, 4]
                    if not read_error(rights, safe):
                        wanted += [2, 0, 2, 0, 5, 3, 0, 3, 0, 6]
                    self.assertEqual(last(*table, groups(1, 3, SERVICE)), answer(*wanted))

    def test_groups_of_the_other_kind_that_are_not_read_do_not_count(self):
        table = [add(1, 0, [4], SECOND), add(1, 1, [5], SERVICE), add(1, 0, [4], SECOND), add(1, 1, [6], SERVICE)]
        self.assertEqual(last(*table, groups(1, 4, SERVICE)), answer(0x11, 5, 2, 0, 2, 0, 5, 4, 0, 4, 0, 6))

    def test_as_long_as_values_are_alike_in_length(self):
        for length in (0, 1, 3, 4, 40):
            with self.subTest(length=length):
                table = [add(40, 1, value, SERVICE) for value in ([1, 2], [3, 4], [5] * length, [6, 7])]
                wanted = answer(0x11, 6, 1, 0, 1, 0, 1, 2, 2, 0, 2, 0, 3, 4)
                self.assertEqual(last(*table, agree(100), groups(1, 4, SERVICE)), wanted)
                self.assertEqual(last(*table, agree(100), groups(1, 3, SERVICE)), wanted)

    def test_values_of_each_length_at_each_l(self):
        for length in LENGTHS:
            for size in (0, 1, 2, 7, 16, length - 7, length - 6, length - 5, 250, 251, 252, 512):
                with self.subTest(length=length, size=size):
                    count = 64 if size == 0 else 4
                    table = [add(512, 1, counted(size, number), SERVICE) for number in range(count)]
                    cut = min(size, 251, length - 6)
                    fit = min(count, (length - 2) // (cut + 4))
                    wanted = [0x11, cut + 4]
                    for number in range(fit):
                        wanted += [number + 1, 0, number + 1, 0, *counted(cut, number)]
                    self.assertEqual(last(*table, agree(length), groups(1, count, SERVICE)), answer(*wanted))

    def test_the_end_of_a_full_table(self):
        table = [add(1, 1, [5], SERVICE)] + [add(0, 0, [])] * 255
        self.assertEqual(last(*table, groups(1, 65535, SERVICE)), answer(0x11, 5, 1, 0, *two(256), 5))


if __name__ == "__main__":
    unittest.main()
