"""Promise 1: seal."""

import random
import unittest

from tests.helper import (LEAST, LETTER, N, THREES, TOP, answered, face, fits, opened, pad,
                          row_of, seal, value_of)

REFUSED = [[-22, 0]]


class SealTest(unittest.TestCase):
    def test_the_numbers_of_an_answer_stand_in_their_order(self):
        # m of 3 leaves the exponent 1, so that the pad is asked of x itself.
        x = int.from_bytes(range(1, 65), "big")
        bytes_together = [(1 + i) + (33 + i) for i in range(32)]
        expected = [0] + [a ^ b for a, b in zip(LETTER, bytes_together)]
        expected += [1] + [1] + list(range(1, 65))
        self.assertEqual(answered(seal(1, TOP, x, 3)), [expected])

    def test_the_pad_is_reckoned_modulo_256(self):
        x = int.from_bytes([100] + [200] * 63, "big")
        expected = [0] + [a ^ b for a, b in zip(LETTER, [44] + [144] * 31)]
        expected += [1, 1, 100] + [200] * 63
        self.assertEqual(answered(seal(1, TOP, x, 3)), [expected])

    def test_the_low_byte_of_a_number_is_its_last(self):
        letter = [0] * 32
        expected = [0] + [0] * 31 + [16] + [1, 1] + [0] * 63 + [16]
        self.assertEqual(answered(seal(1, N, 2, TOP, letter)), [expected])

    def test_the_exponent_is_what_two_to_the_power_leaves_by_m(self):
        for k in (1, 2, 5, 9, 10):
            for m in (2, 3, 7, 1000, 1008, 2 ** 300 + 7, TOP):
                number = face(pow(5, 2 ** 2 ** k % m, N), N)
                self.assertEqual(answered(seal(k, N, 5, m)), [opened(number, LETTER)], (k, m))

    def test_m_of_one_leaves_the_exponent_nothing(self):
        for k in (1, 10):
            expected = [opened(1, LETTER)]
            self.assertEqual(answered(seal(k, N, 12345, 1)), expected)

    def test_m_of_a_power_of_two_leaves_the_exponent_nothing(self):
        self.assertEqual(answered(seal(3, N, 12345, 256)), [opened(1, LETTER)])
        self.assertEqual(answered(seal(3, N, 2, 512)), [opened(2 ** 256, LETTER)])

    def test_the_pad_is_asked_of_the_face(self):
        # 2^126 to the power 4 leaves -1, whose face is 1.
        self.assertEqual(answered(seal(1, N, 2 ** 126, TOP)), [opened(1, LETTER)])
        # 2^128 to the power 4 leaves -2^8.
        self.assertEqual(answered(seal(1, N, 2 ** 128, TOP)), [opened(2 ** 8, LETTER)])

    def test_a_face_of_zero(self):
        self.assertEqual(answered(seal(4, THREES, 3, TOP)), [opened(0, LETTER)])
        self.assertEqual(opened(0, LETTER)[1:33], LETTER)

    def test_k_of_twenty_is_fit(self):
        number = face(pow(7, pow(2, 2 ** 20, 2 ** 511 - 3), N), N)
        self.assertEqual(answered(seal(20, N, 7, 2 ** 511 - 3)), [opened(number, LETTER)])

    def test_who_knows_an_m_needs_no_squarings(self):
        for k in (1, 6, 10):
            self.assertEqual(answered(seal(k, N, 2, 1008)), [opened(value_of(k, N, 2), LETTER)])
            self.assertEqual(answered(seal(k, TOP, 2, 512)), [opened(value_of(k, TOP, 2), LETTER)])

    def test_the_letter_comes_back_under_the_pad(self):
        told = answered(seal(8, N, 2, 1008))[0]
        again = [a ^ b for a, b in zip(told[1:33], pad(value_of(8, N, 2)))]
        self.assertEqual(again, LETTER)

    def test_bytes_of_the_letter_of_0_and_of_255(self):
        for letter in ([0] * 32, [255] * 32, [0, 255] * 16):
            number = face(pow(3, 16, N), N)
            self.assertEqual(answered(seal(2, N, 3, TOP, letter)), [opened(number, letter)])


class RefusedSealTest(unittest.TestCase):
    def test_n_is_even(self):
        for n in (LEAST, LEAST + 2, 2 ** 512 - 2):
            self.assertEqual(answered(seal(3, n, 5, 1008)), REFUSED)

    def test_n_is_below_the_least(self):
        for n in (0, 1, 3, 15, 2 ** 503 + 1, LEAST - 1):
            self.assertEqual(answered(seal(3, n, 2, 1008)), REFUSED)

    def test_n_just_at_the_least(self):
        self.assertEqual(answered(seal(1, LEAST + 1, 5, 99)), [opened(5 ** 4, LETTER)])

    def test_x_is_not_small_or_is_one(self):
        for n in (N, TOP):
            for x in (0, 1, (n - 1) // 2 + 1, n - 1, n, TOP):
                self.assertEqual(answered(seal(3, n, x, 1008)), REFUSED)

    def test_x_just_within(self):
        for n in (N, TOP):
            for x in (2, (n - 1) // 2):
                number = face(pow(x, 256 % 99, n), n)
                self.assertEqual(answered(seal(3, n, x, 99)), [opened(number, LETTER)])

    def test_k_is_outside(self):
        for k in (0, 21, 22, 2 ** 31, 4294967295):
            self.assertEqual(answered(seal(k, N, 5, 1008)), REFUSED)

    def test_m_is_zero(self):
        self.assertEqual(answered(seal(3, N, 5, 0)), REFUSED)

    def test_m_is_zero_and_w_is_not_fit(self):
        self.assertEqual(answered(seal(0, 0, 0, 0)), REFUSED)


class ManySealsTest(unittest.TestCase):
    def test_chosen_at_random_with_a_fixed_seed(self):
        chance = random.Random(1)
        for turn in range(100):
            n = chance.randrange(LEAST - 3, 2 ** chance.randrange(505, 513))
            x = chance.randrange(2, n // 2 + 2)
            m = chance.randrange(0, 2 ** chance.randrange(1, 513))
            k = chance.randrange(0, 11)
            letter = [chance.randrange(256) for place in range(32)]
            expected = [-22, 0]
            if fits(k, n, x) and m > 0:
                expected = opened(face(pow(x, pow(2, 2 ** k, m), n), n), letter)
            self.assertEqual(answered(seal(k, n, x, m, letter)), [expected], (k, n, x, m))

    def test_a_pad_is_told_with_64_bytes(self):
        told = answered(seal(1, N, 2, TOP))[0]
        self.assertEqual(len(told), 1 + 32 + 1 + 1 + 64)
        self.assertEqual(told[33:35], [1, 1])
        self.assertEqual(told[35:], row_of(16))


if __name__ == "__main__":
    unittest.main()
