"""Promise 2: add."""

import unittest

from tests.calls import GREATEST, LEAST, add, get, put, told

FULL = [add(4, 0, [number % 256]) for number in range(256)]


class Ordinary(unittest.TestCase):
    def test_handles_count_from_one_in_order(self):
        calls = [add(4, 0, [1]), add(4, 3, [2]), add(4, 31, [3, 3, 3, 3])]
        self.assertEqual(told(*calls), [[1], [2], [3]])

    def test_the_value_is_kept_under_its_handle(self):
        calls = [add(4, 0, [1]), add(4, 3, [2, 0, 255]), get(2), get(1)]
        self.assertEqual(told(*calls)[2:], [[3, 2, 0, 255], [1, 1]])

    def test_same_kinds_and_values_are_attributes_of_their_own(self):
        calls = [add(4, 0, [1]), add(4, 0, [1]), put(1, [9]), get(1), get(2)]
        self.assertEqual(told(*calls), [[1], [2], [0], [1, 9], [1, 1]])


class Kinds(unittest.TestCase):
    def test_only_2_and_16_bytes_can_be(self):
        for length in range(17):
            with self.subTest(length=length):
                wanted = 1 if length in (2, 16) else -1
                self.assertEqual(told(add(4, 0, [7], [1] * length)), [[wanted]])

    def test_least_and_greatest_bytes(self):
        for kind in ([0] * 2, [255] * 2, [0] * 16, [255] * 16):
            with self.subTest(kind=kind):
                calls = [add(4, 0, [0, 255], kind), get(1)]
                self.assertEqual(told(*calls), [[1], [2, 0, 255]])


class Most(unittest.TestCase):
    def test_edges_with_a_value_of_no_bytes(self):
        for most, wanted in ((LEAST, -1), (-1, -1), (0, 1), (1, 1), (511, 1),
                             (512, 1), (513, -1), (GREATEST, -1)):
            with self.subTest(most=most):
                self.assertEqual(told(add(most, 0, [])), [[wanted]])

    def test_edges_with_a_value_of_512_bytes(self):
        for most, wanted in ((LEAST, -1), (-1, -1), (0, -1), (511, -1),
                             (512, 1), (513, -1), (GREATEST, -1)):
            with self.subTest(most=most):
                self.assertEqual(told(add(most, 0, [255] * 512)), [[wanted]])


class Rights(unittest.TestCase):
    def test_edges(self):
        for rights, wanted in ((LEAST, -1), (-16, -1), (-1, -1), (0, 1), (31, 1),
                               (32, -1), (48, -1), (GREATEST, -1)):
            with self.subTest(rights=rights):
                self.assertEqual(told(add(1, rights, [7])), [[wanted]])

    def test_only_right_16_asks_for_the_most_bytes(self):
        for rights in range(32):
            with self.subTest(rights=rights):
                shorter = -1 if rights >= 16 else 1
                self.assertEqual(told(add(3, rights, [7] * 2)), [[shorter]])
                self.assertEqual(told(add(3, rights, [])), [[shorter]])
                self.assertEqual(told(add(3, rights, [7] * 3)), [[1]])
                self.assertEqual(told(add(3, rights, [7] * 4)), [[-1]])


class Lengths(unittest.TestCase):
    def test_around_the_most(self):
        for length, wanted in ((0, 1), (9, 1), (10, 1), (11, -1), (512, -1)):
            with self.subTest(length=length):
                self.assertEqual(told(add(10, 0, [7] * length)), [[wanted]])

    def test_no_bytes_at_the_most(self):
        for rights in (0, 16):
            with self.subTest(rights=rights):
                calls = [add(0, rights, [1]), add(0, rights, []), get(1)]
                self.assertEqual(told(*calls), [[-1], [1], [0]])

    def test_512_bytes(self):
        value = [number % 256 for number in range(512)]
        for rights in (0, 16):
            with self.subTest(rights=rights):
                calls = [add(512, rights, value), get(1)]
                self.assertEqual(told(*calls), [[1], [512] + value])

    def test_right_16_at_512(self):
        for length, wanted in ((0, -1), (511, -1), (512, 1)):
            with self.subTest(length=length):
                self.assertEqual(told(add(512, 16, [7] * length)), [[wanted]])


class Full(unittest.TestCase):
    def test_the_256th_is_taken_and_the_257th_refused(self):
        given = told(*FULL, add(4, 0, [7]), add(4, 0, [7]))
        self.assertEqual(given[:256], [[handle] for handle in range(1, 257)])
        self.assertEqual(given[256:], [[-2], [-2]])

    def test_a_refusal_by_a_full_table_changes_nothing(self):
        gets = [get(handle) for handle in range(1, 258)]
        given = told(*FULL, add(4, 0, [7]), *gets)
        values = [[1, number % 256] for number in range(256)]
        self.assertEqual(given[257:], values + [[-1]])

    def test_what_cannot_be_counts_ahead_of_a_full_table(self):
        wrong = (add(4, 0, [7], [1] * 3), add(-1, 0, []), add(513, 0, []),
                 add(4, -1, [7]), add(4, 32, [7]), add(1, 0, [7, 7]), add(2, 16, [7]))
        for call in wrong:
            with self.subTest(call=call):
                self.assertEqual(told(*FULL, call)[256:], [[-1]])


class Refused(unittest.TestCase):
    def test_a_refused_add_takes_no_handle(self):
        wrong = (add(4, 0, [7], []), add(-1, 0, []), add(513, 0, []),
                 add(4, -1, [7]), add(4, 32, [7]), add(1, 0, [7, 7]), add(2, 16, [7]))
        for call in wrong:
            with self.subTest(call=call):
                calls = [add(4, 0, [1]), call, get(1), get(2), add(4, 0, [2]), get(2)]
                self.assertEqual(told(*calls), [[1], [-1], [1, 1], [-1], [2], [1, 2]])

    def test_refused_adds_do_not_fill_the_table(self):
        given = told(*[add(4, 32, [7])] * 300, *FULL)
        self.assertEqual(given[:300], [[-1]] * 300)
        self.assertEqual(given[300:], [[handle] for handle in range(1, 257)])


if __name__ == "__main__":
    unittest.main()
