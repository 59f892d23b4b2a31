"""Messages 04 and 06: attributes by their handles, and by kind and value; and groups."""

import unittest

from tests.calls import (KIND, OTHER, SECOND, SERVICE, add, agree, answer, counted, error, find_kinds, find_value,
                         last, link, long, put, two, write)

LENGTHS = range(23, 248)
OWN = counted(16, 100)


class Kinds(unittest.TestCase):
    def test_short_kinds(self):
        table = [add(1, 0, [], SERVICE), add(1, 0, [], KIND), add(1, 0, [], [0xFF, 0xFE])]
        self.assertEqual(last(*table, find_kinds(1, 3)),
                         answer(5, 1, 1, 0, 0, 0x28, 2, 0, 0, 42, 3, 0, 0xFF, 0xFE))

    def test_long_kinds(self):
        table = [add(1, 0, [], OWN), add(1, 0, [], long(KIND))]
        self.assertEqual(last(*table, find_kinds(1, 1)), answer(5, 2, 1, 0, *OWN))
        self.assertEqual(last(*table, agree(100), find_kinds(1, 2)), answer(5, 2, 1, 0, *OWN, 2, 0, *long(KIND)))

    def test_where_lengths_change(self):
        table = [agree(247), add(1, 0, [], KIND), add(1, 0, [], OTHER), add(1, 0, [], OWN), add(1, 0, [], long(KIND)),
                 add(1, 0, [], KIND), add(1, 0, [], OWN)]
        short = [1, 0, *KIND, 2, 0, *OTHER]
        self.assertEqual(last(*table, find_kinds(1, 6)), answer(5, 1, *short))
        self.assertEqual(last(*table, find_kinds(2, 6)), answer(5, 1, *short[4:]))
        self.assertEqual(last(*table, find_kinds(3, 6)), answer(5, 2, 3, 0, *OWN, 4, 0, *long(KIND)))
        self.assertEqual(last(*table, find_kinds(4, 6)), answer(5, 2, 4, 0, *long(KIND)))
        self.assertEqual(last(*table, find_kinds(5, 6)), answer(5, 1, 5, 0, *KIND))
        self.assertEqual(last(*table, find_kinds(6, 6)), answer(5, 2, 6, 0, *OWN))

    def test_a_kind_is_told_as_it_was_made(self):
        self.assertEqual(last(add(1, 0, [], long(SERVICE)), find_kinds(1, 1)), answer(5, 2, 1, 0, *long(SERVICE)))

    def test_as_many_short_ones_as_fit(self):
        table = [add(0, 0, [], [number, 7]) for number in range(70)]
        for length in LENGTHS:
            with self.subTest(length=length):
                wanted = [5, 1]
                for number in range((length - 2) // 4):
                    wanted += [number + 1, 0, number, 7]
                self.assertEqual(last(*table, agree(length), find_kinds(1, 70)), answer(*wanted))

    def test_as_many_long_ones_as_fit(self):
        table = [add(0, 0, [], [number] * 16) for number in range(20)]
        for length in LENGTHS:
            with self.subTest(length=length):
                wanted = [5, 2]
                for number in range((length - 2) // 18):
                    wanted += [number + 1, 0] + [number] * 16
                self.assertEqual(last(*table, agree(length), find_kinds(1, 20)), answer(*wanted))

    def test_no_right_is_asked_for(self):
        for rights in range(32):
            for safe in (0, 1):
                with self.subTest(rights=rights, safe=safe):
                    calls = [link(safe), add(0, rights, []), find_kinds(1, 1)]
                    self.assertEqual(last(*calls), answer(5, 1, 1, 0, *KIND))


class Values(unittest.TestCase):
    def test_kind_and_value_are_those_asked(self):
        table = [add(4, 1, [1, 2]), add(4, 1, [1, 2], OTHER), add(4, 1, [1, 2]), add(4, 1, [1]),
                 add(4, 1, [1, 2, 3]), add(4, 1, [2, 1]), add(4, 1, [1, 2])]
        self.assertEqual(last(*table, find_value(1, 7, KIND, [1, 2])),
                         answer(7, 1, 0, 1, 0, 3, 0, 3, 0, 7, 0, 7, 0))
        self.assertEqual(last(*table, find_value(2, 6, KIND, [1, 2])), answer(7, 3, 0, 3, 0))
        self.assertEqual(last(*table, find_value(1, 7, OTHER, [1, 2])), answer(7, 2, 0, 2, 0))
        self.assertEqual(last(*table, find_value(1, 7, KIND, [1])), answer(7, 4, 0, 4, 0))
        self.assertEqual(last(*table, find_value(1, 7, KIND, [1, 2, 3])), answer(7, 5, 0, 5, 0))

    def test_none(self):
        table = [add(4, 1, [9]), add(4, 1, [1, 2])]
        self.assertEqual(last(*table, find_value(1, 2, KIND, [1])), error(6, 1, 10))
        self.assertEqual(last(*table, find_value(1, 2, KIND, [])), error(6, 1, 10))
        self.assertEqual(last(*table, find_value(1, 2, OTHER, [9])), error(6, 1, 10))
        self.assertEqual(last(*table, find_value(2, 2, KIND, [9])), error(6, 2, 10))
        self.assertEqual(last(*table, find_value(1, 1, KIND, [1, 2])), error(6, 1, 10))

    def test_a_value_of_no_bytes(self):
        table = [add(4, 1, [9]), add(4, 1, []), add(0, 17, [])]
        self.assertEqual(last(*table, find_value(1, 3, KIND, [])), answer(7, 2, 0, 2, 0, 3, 0, 3, 0))

    def test_long_values(self):
        value = counted(240)
        table = [agree(247), add(512, 1, value), add(512, 1, value + [0]), add(512, 1, value[:239])]
        self.assertEqual(last(*table, find_value(1, 3, KIND, value)), answer(7, 1, 0, 1, 0))

    def test_the_value_it_has_now(self):
        table = [add(4, 3, [1])]
        self.assertEqual(last(*table, put(1, [2]), find_value(1, 1, KIND, [2])), answer(7, 1, 0, 1, 0))
        self.assertEqual(last(*table, put(1, [2]), find_value(1, 1, KIND, [1])), error(6, 1, 10))
        self.assertEqual(last(*table, write(1, [3]), find_value(1, 1, KIND, [3])), answer(7, 1, 0, 1, 0))

    def test_a_kind_told_in_sixteen_bytes_is_the_same(self):
        table = [add(4, 1, [1], long(KIND)), add(4, 1, [1], KIND), add(4, 1, [1], OWN)]
        self.assertEqual(last(*table, find_value(1, 3, KIND, [1])), answer(7, 1, 0, 1, 0, 2, 0, 2, 0))

    def test_every_byte_of_the_long_form_counts(self):
        for place in range(16):
            with self.subTest(place=place):
                kind = long(KIND)
                kind[place] ^= 1
                self.assertEqual(last(add(4, 1, [1], kind), find_value(1, 1, KIND, [1])), error(6, 1, 10))

    def test_the_kind_is_two_bytes_whatever_the_length(self):
        # With a length of 21, as 08 has it, the bytes behind the kind are a value all the same.
        table = [add(14, 1, long(KIND)[2:], [0xFB, 0x34]), add(14, 1, counted(14), KIND)]
        self.assertEqual(last(*table, find_value(1, 2, [0xFB, 0x34], long(KIND)[2:])), answer(7, 1, 0, 1, 0))

    def test_only_those_that_are_read(self):
        for rights in range(32):
            for safe in (0, 1):
                with self.subTest(rights=rights, safe=safe):
                    is_read = rights & 1 and (safe or not rights & 8)
                    calls = [link(safe), add(1, rights, [5]), find_value(1, 1, KIND, [5])]
                    wanted = answer(7, 1, 0, 1, 0) if is_read else error(6, 1, 10)
                    self.assertEqual(last(*calls), wanted)

    def test_those_not_read_are_passed_over(self):
        table = [add(1, 0, [5]), add(1, 1, [5]), add(1, 9, [5]), add(1, 1, [5]), add(1, 2, [5])]
        self.assertEqual(last(*table, find_value(1, 5, KIND, [5])), answer(7, 2, 0, 2, 0, 4, 0, 4, 0))
        self.assertEqual(last(*table, link(1), find_value(1, 5, KIND, [5])),
                         answer(7, 2, 0, 2, 0, 3, 0, 3, 0, 4, 0, 4, 0))

    def test_as_many_as_fit(self):
        table = [add(1, 1, [5]) for number in range(70)]
        for length in LENGTHS:
            with self.subTest(length=length):
                wanted = [7]
                for number in range((length - 1) // 4):
                    wanted += [number + 1, 0, number + 1, 0]
                self.assertEqual(last(*table, agree(length), find_value(1, 70, KIND, [5])), answer(*wanted))


class Groups(unittest.TestCase):
    def lasts(self, kinds, asked):
        table = [add(1, 1, [5], kind) for kind in kinds]
        given = last(*table, agree(247), find_value(1, 256, asked, [5]))
        self.assertEqual(given[1], 7)
        return list(zip(given[2::4], given[4::4]))

    def test_up_to_the_next_group_and_the_end(self):
        kinds = [SERVICE, KIND, KIND, SERVICE, SERVICE, KIND]
        self.assertEqual(self.lasts(kinds, SERVICE), [(1, 3), (4, 4), (5, 6)])

    def test_groups_of_the_other_kind_end_one_too(self):
        kinds = [SERVICE, KIND, SECOND, KIND, KIND, SERVICE, SECOND]
        self.assertEqual(self.lasts(kinds, SERVICE), [(1, 2), (6, 6)])
        self.assertEqual(self.lasts(kinds, SECOND), [(3, 5), (7, 7)])

    def test_what_begins_none_is_its_own_last(self):
        kinds = [KIND, SERVICE, KIND, OTHER, KIND, SECOND, KIND]
        self.assertEqual(self.lasts(kinds, KIND), [(1, 1), (3, 3), (5, 5), (7, 7)])
        self.assertEqual(self.lasts(kinds, OTHER), [(4, 4)])

    def test_neighbours_of_the_two_kinds_begin_none(self):
        for kind in ([0x02, 0x28], [0xFF, 0x27], [0x28, 0x00], [0x28, 0x01], [0x00, 0x29], [0x01, 0x27]):
            with self.subTest(kind=kind):
                self.assertEqual(self.lasts([kind, KIND], kind), [(1, 1)])
                self.assertEqual(self.lasts([SERVICE, kind, KIND], SERVICE), [(1, 3)])

    def test_groups_told_in_sixteen_bytes(self):
        kinds = [long(SERVICE), KIND, SERVICE, KIND, long(SECOND), KIND, SECOND]
        self.assertEqual(self.lasts(kinds, SERVICE), [(1, 2), (3, 4)])
        self.assertEqual(self.lasts(kinds, SECOND), [(5, 6), (7, 7)])

    def test_the_end_does_not_depend_on_the_range(self):
        table = [add(1, 1, [5], kind) for kind in (SERVICE, KIND, KIND, SERVICE)]
        self.assertEqual(last(*table, find_value(1, 1, SERVICE, [5])), answer(7, 1, 0, 3, 0))
        self.assertEqual(last(*table, find_value(1, 2, SERVICE, [5])), answer(7, 1, 0, 3, 0))

    def test_the_end_does_not_depend_on_rights_and_values(self):
        table = [add(1, 1, [5], SERVICE), add(1, 0, [5]), add(1, 0, [6], SECOND)]
        self.assertEqual(last(*table, find_value(1, 3, SERVICE, [5])), answer(7, 1, 0, 2, 0))

    def test_the_end_moves_with_the_table(self):
        table = [add(1, 1, [5], SERVICE), find_value(1, 9, SERVICE, [5])]
        self.assertEqual(last(*table), answer(7, 1, 0, 1, 0))
        self.assertEqual(last(*table, add(1, 0, []), table[1]), answer(7, 1, 0, 2, 0))
        self.assertEqual(last(*table, add(1, 0, []), add(1, 0, [], SECOND), table[1]), answer(7, 1, 0, 2, 0))

    def test_a_full_table(self):
        table = [add(1, 1, [5], SERVICE)] + [add(0, 0, [])] * 255
        self.assertEqual(last(*table, find_value(1, 256, SERVICE, [5])), answer(7, 1, 0, *two(256)))


if __name__ == "__main__":
    unittest.main()
