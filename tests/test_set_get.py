"""Promise 3: set and get."""

import unittest

from tests.calls import GREATEST, LEAST, add, get, put, told

THREE = [add(4, 0, [1]), add(4, 0, [2, 2]), add(4, 0, [3, 3, 3])]
THREE_GETS = [get(1), get(2), get(3)]
THREE_VALUES = [[1, 1], [2, 2, 2], [3, 3, 3, 3]]
NOT_THERE = (LEAST, -4, -3, -2, -1, 0, 4, 5, 256, 257, 65537, GREATEST)


class Get(unittest.TestCase):
    def test_length_then_value(self):
        self.assertEqual(told(*THREE, *THREE_GETS)[3:], THREE_VALUES)

    def test_handles_that_are_not_there(self):
        for handle in NOT_THERE:
            with self.subTest(handle=handle):
                given = told(*THREE, get(handle), *THREE_GETS)
                self.assertEqual(given[3:], [[-1]] + THREE_VALUES)

    def test_no_attributes_at_first(self):
        for handle in NOT_THERE + (1, 2, 3):
            with self.subTest(handle=handle):
                self.assertEqual(told(get(handle)), [[-1]])

    def test_a_value_of_no_bytes(self):
        self.assertEqual(told(add(4, 0, []), get(1)), [[1], [0]])

    def test_getting_changes_nothing(self):
        given = told(*THREE, *THREE_GETS, *THREE_GETS)
        self.assertEqual(given[3:], THREE_VALUES + THREE_VALUES)

    def test_rights_do_not_count(self):
        for rights in range(32):
            with self.subTest(rights=rights):
                self.assertEqual(told(add(2, rights, [5, 6]), get(1)), [[1], [2, 5, 6]])

    def test_the_last_of_a_full_table(self):
        adds = [add(1, 0, [number % 256]) for number in range(256)]
        given = told(*adds, get(255), get(256), get(257))
        self.assertEqual(given[256:], [[1, 254], [1, 255], [-1]])


class Set(unittest.TestCase):
    def test_each_handle_has_its_own_value(self):
        for handle in (1, 2, 3):
            with self.subTest(handle=handle):
                values = list(THREE_VALUES)
                values[handle - 1] = [4, 0, 255, 9, 8]
                given = told(*THREE, put(handle, [0, 255, 9, 8]), *THREE_GETS)
                self.assertEqual(given[3:], [[0]] + values)

    def test_handles_that_are_not_there(self):
        for handle in NOT_THERE:
            with self.subTest(handle=handle):
                given = told(*THREE, put(handle, [9]), *THREE_GETS, get(4))
                self.assertEqual(given[3:], [[-1]] + THREE_VALUES + [[-1]])

    def test_no_attributes_at_first(self):
        for handle in NOT_THERE + (1, 2, 3):
            with self.subTest(handle=handle):
                self.assertEqual(told(put(handle, [9]), put(handle, [])), [[-1], [-1]])

    def test_a_refused_set_makes_no_attribute(self):
        calls = [put(1, [9]), get(1), add(4, 0, [1]), get(1)]
        self.assertEqual(told(*calls), [[-1], [-1], [1], [1, 1]])

    def test_a_later_set_counts(self):
        calls = [add(4, 0, [1]), put(1, [2]), put(1, [3, 4]), get(1)]
        self.assertEqual(told(*calls), [[1], [0], [0], [2, 3, 4]])

    def test_set_takes_the_place_of_the_whole_value(self):
        calls = [add(4, 0, [1, 2, 3, 4]), put(1, [9]), get(1), put(1, [5, 6, 7, 8]), get(1)]
        self.assertEqual(told(*calls), [[1], [0], [1, 9], [0], [4, 5, 6, 7, 8]])

    def test_lengths_around_the_most(self):
        for length in (0, 1, 3, 4):
            with self.subTest(length=length):
                calls = [add(4, 0, [1, 2]), put(1, [9] * length), get(1)]
                self.assertEqual(told(*calls), [[1], [0], [length] + [9] * length])
        for length in (5, 6, 512):
            with self.subTest(length=length):
                calls = [add(4, 0, [1, 2]), put(1, [9] * length), get(1)]
                self.assertEqual(told(*calls), [[1], [-1], [2, 1, 2]])

    def test_right_16_asks_for_the_most_bytes(self):
        for length in (0, 1, 3, 5, 512):
            with self.subTest(length=length):
                calls = [add(4, 16, [1, 2, 3, 4]), put(1, [9] * length), get(1)]
                self.assertEqual(told(*calls), [[1], [-1], [4, 1, 2, 3, 4]])
        calls = [add(4, 16, [1, 2, 3, 4]), put(1, [9] * 4), get(1)]
        self.assertEqual(told(*calls), [[1], [0], [4, 9, 9, 9, 9]])

    def test_a_value_of_no_bytes(self):
        calls = [add(4, 0, [1]), put(1, []), get(1), put(1, [2]), get(1)]
        self.assertEqual(told(*calls), [[1], [0], [0], [0], [1, 2]])

    def test_no_bytes_at_the_most(self):
        for rights in (0, 16):
            with self.subTest(rights=rights):
                calls = [add(0, rights, []), put(1, [1]), put(1, []), get(1)]
                self.assertEqual(told(*calls), [[1], [-1], [0], [0]])

    def test_512_bytes(self):
        value = [255 - number % 256 for number in range(512)]
        for rights in (0, 16):
            with self.subTest(rights=rights):
                calls = [add(512, rights, [7] * 512), put(1, value), get(1)]
                self.assertEqual(told(*calls), [[1], [0], [512] + value])
        calls = [add(511, 0, [7]), put(1, value), get(1)]
        self.assertEqual(told(*calls), [[1], [-1], [1, 7]])

    def test_no_right_but_16_counts(self):
        for rights in range(32):
            with self.subTest(rights=rights):
                shorter = [[-1], [2, 5, 6]] if rights >= 16 else [[0], [1, 7]]
                calls = [add(2, rights, [5, 6]), put(1, [7]), get(1)]
                self.assertEqual(told(*calls), [[1]] + shorter)
                calls = [add(2, rights, [5, 6]), put(1, [7, 8]), get(1)]
                self.assertEqual(told(*calls), [[1], [0], [2, 7, 8]])

    def test_each_attribute_has_its_own_most_and_rights(self):
        calls = [add(1, 0, [1]), add(2, 16, [2, 2]), add(3, 0, [3]),
                 put(1, [9, 9]), put(2, [9]), put(3, [9, 9]),
                 put(1, []), put(2, [8, 8]), put(3, [8, 8, 8, 8]),
                 get(1), get(2), get(3)]
        self.assertEqual(told(*calls)[3:], [[-1], [-1], [0], [0], [0], [-1],
                                            [0], [2, 8, 8], [2, 9, 9]])


if __name__ == "__main__":
    unittest.main()
