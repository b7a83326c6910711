"""Promises 2 to 4: begin, work and value; and what is said ahead of them."""

import unittest

from tests.helper import (ALL, LEAST, LETTER, N, THREES, TOP, VALUE, answered, begin, face,
                          opened, row_of, seal, value_of, work)


def is_value(number):
    return [0] + row_of(number) + [0]


class BeginTest(unittest.TestCase):
    def test_it_answers_zero_and_asks_nothing(self):
        self.assertEqual(answered(begin(3, N, 5)), [[0, 0]])

    def test_none_of_the_squarings_is_done(self):
        for k in (1, 2, 9, 10):
            told = answered(begin(k, N, 5), work(0))
            self.assertEqual(told, [[0, 0], [2 ** k, 0]])

    def test_k_of_twenty_is_fit(self):
        told = answered(begin(20, N, 5), work(0), work(1000), VALUE)
        self.assertEqual(told, [[0, 0], [2 ** 20, 0], [2 ** 20 - 1000, 0], [-1, 0]])

    def test_n_is_not_fit(self):
        for n in (0, 1, 3, 15, 2 ** 503 + 1, LEAST - 1, LEAST, LEAST + 2, 2 ** 512 - 2):
            self.assertEqual(answered(begin(3, n, 2)), [[-22, 0]])

    def test_x_is_not_small_or_is_one(self):
        for n in (N, TOP):
            for x in (0, 1, (n - 1) // 2 + 1, n - 1, n, TOP):
                self.assertEqual(answered(begin(3, n, x)), [[-22, 0]])

    def test_k_is_outside(self):
        for k in (0, 21, 22, 2 ** 31, ALL):
            self.assertEqual(answered(begin(k, N, 5)), [[-22, 0]])

    def test_just_within(self):
        for n in (LEAST + 1, TOP):
            for x in (2, (n - 1) // 2):
                for k in (1, 10):
                    self.assertEqual(answered(begin(k, n, x)), [[0, 0]])

    def test_again_takes_the_place_of_what_was_begun(self):
        told = answered(begin(4, N, 5), work(3), begin(3, TOP, 7), work(0), work(ALL), VALUE)
        self.assertEqual(told[2:5], [[0, 0], [8, 0], [0, 0]])
        self.assertEqual(told[5], is_value(value_of(3, TOP, 7)))

    def test_again_of_the_same_starts_anew(self):
        told = answered(begin(3, N, 5), work(8), begin(3, N, 5), VALUE, work(0), work(8), VALUE)
        self.assertEqual(told[3:6], [[-1, 0], [8, 0], [0, 0]])
        self.assertEqual(told[6], is_value(value_of(3, N, 5)))

    def test_refused_leaves_what_was_begun(self):
        refused = (begin(0, TOP, 7), begin(3, TOP - 1, 7), begin(3, TOP, 1), begin(21, TOP, 7))
        for call in refused:
            told = answered(begin(4, N, 5), work(3), call, work(0), work(13), call, VALUE)
            self.assertEqual(told[1:6], [[13, 0], [-22, 0], [13, 0], [0, 0], [-22, 0]])
            self.assertEqual(told[6], is_value(value_of(4, N, 5)))


class WorkTest(unittest.TestCase):
    def test_it_does_as_many_as_steps_says(self):
        told = answered(begin(4, N, 5), work(1), work(0), work(5), work(9), work(1))
        self.assertEqual(told[1:], [[15, 0], [15, 0], [10, 0], [1, 0], [0, 0]])

    def test_just_what_is_left(self):
        told = answered(begin(4, N, 5), work(16), VALUE)
        self.assertEqual(told[1:], [[0, 0], is_value(value_of(4, N, 5))])

    def test_above_what_is_left(self):
        for steps in (17, 1000, ALL):
            told = answered(begin(4, N, 5), work(steps), VALUE)
            self.assertEqual(told[1:], [[0, 0], is_value(value_of(4, N, 5))])

    def test_above_what_is_left_of_some(self):
        told = answered(begin(4, N, 5), work(10), work(7), VALUE)
        self.assertEqual(told[1:], [[6, 0], [0, 0], is_value(value_of(4, N, 5))])

    def test_none_is_left_any_more(self):
        told = answered(begin(2, N, 5), work(4), work(0), work(1), work(ALL), VALUE)
        self.assertEqual(told[2:], [[0, 0], [0, 0], [0, 0], is_value(value_of(2, N, 5))])

    def test_nothing_was_begun(self):
        for steps in (0, 1, ALL):
            self.assertEqual(answered(work(steps)), [[-61]])

    def test_begin_was_refused(self):
        self.assertEqual(answered(begin(0, N, 5), work(1), work(0)), [[-22, 0], [-61], [-61]])

    def test_seal_begins_nothing(self):
        told = answered(seal(3, N, 2, 1008), work(1), VALUE)
        self.assertEqual(told[1:], [[-61], [-61]])


class ValueTest(unittest.TestCase):
    def test_however_it_was_done(self):
        for k in (1, 3, 7, 10):
            for n, x in ((N, 5), (N, (N - 1) // 2), (TOP, 3), (2 ** 511 + 111, 2 ** 510 + 9)):
                expected = is_value(value_of(k, n, x))
                self.assertEqual(answered(begin(k, n, x), work(ALL), VALUE)[-1], expected)
                steps = [work(1)] * (2 ** k)
                self.assertEqual(answered(begin(k, n, x), *steps, VALUE)[-1], expected)

    def test_the_high_byte_is_first(self):
        told = answered(begin(1, N, 2), work(2), VALUE)
        self.assertEqual(told[-1], [0] + [0] * 63 + [16] + [0])
        told = answered(begin(1, N, 2 ** 100), work(2), VALUE)
        self.assertEqual(told[-1], [0] + [0] * 13 + [1] + [0] * 50 + [0])

    def test_some_are_left(self):
        told = answered(begin(2, N, 5), VALUE, work(3), VALUE, work(0), VALUE, work(1), VALUE)
        self.assertEqual(told[:7], [[0, 0], [-1, 0], [1, 0], [-1, 0], [1, 0], [-1, 0], [0, 0]])
        self.assertEqual(told[7], is_value(value_of(2, N, 5)))

    def test_nothing_was_begun(self):
        self.assertEqual(answered(VALUE), [[-61]])
        self.assertEqual(answered(begin(21, N, 5), VALUE), [[-22, 0], [-61]])

    def test_alike_minus_one(self):
        # 2^126 squared twice is 2^504, which leaves -1.
        self.assertEqual(answered(begin(1, N, 2 ** 126), work(2), VALUE)[-1], is_value(1))
        # 2^63 squared three times is that too, and once more it is 1.
        told = answered(begin(2, N, 2 ** 63), work(3), VALUE, work(1), VALUE)
        self.assertEqual(told[2], [-1, 0])
        self.assertEqual(told[4], is_value(1))

    def test_the_face_of_what_is_above_half(self):
        # 2^128 squared twice is 2^512, which leaves -2^8.
        self.assertEqual(answered(begin(1, N, 2 ** 128), work(2), VALUE)[-1], is_value(2 ** 8))

    def test_a_face_of_zero(self):
        self.assertEqual(answered(begin(9, THREES, 3), work(ALL), VALUE)[-1], is_value(0))

    def test_asked_twice_it_is_the_same(self):
        told = answered(begin(3, N, 5), work(8), VALUE, VALUE)
        self.assertEqual(told[2], told[3])
        self.assertEqual(told[2], is_value(value_of(3, N, 5)))

    def test_seal_between_leaves_it_as_it_was(self):
        other = seal(2, TOP, 3, TOP)
        told = answered(begin(3, N, 5), other, work(5), other, VALUE, work(3), other, VALUE)
        sealed = opened(face(3 ** 16, TOP), LETTER)
        self.assertEqual([told[1], told[3], told[6]], [sealed] * 3)
        self.assertEqual([told[2], told[4], told[5]], [[3, 0], [-1, 0], [0, 0]])
        self.assertEqual(told[7], is_value(value_of(3, N, 5)))

    def test_it_is_what_the_pad_of_a_seal_is_asked_of(self):
        told = answered(seal(9, N, 2, 1008), begin(9, N, 2), work(ALL), VALUE)
        self.assertEqual(told[0][-64:], told[3][1:65])


if __name__ == "__main__":
    unittest.main()
