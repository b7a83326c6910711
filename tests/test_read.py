"""Promise 7: read; and point a."""

import random
import unittest

from tests.helper import (ALL, LETTER, N, TOP, VALUE, answered, begin, numbers_of, opened, read,
                          row_of, seal, value_of, work)

# Two primes, so that what has no divisor in common with n leaves 1 to the power M.
P = 2 ** 255 - 19
Q = 2 ** 251 - 9
M = (P - 1) * (Q - 1)


class ReadTest(unittest.TestCase):
    def test_by_hand(self):
        y = int.from_bytes(range(1, 65), "big")
        bytes_together = [(1 + i) + (33 + i) for i in range(32)]
        expected = [0] + [a ^ b for a, b in zip(LETTER, bytes_together)]
        expected += [1] + [1] + list(range(1, 65))
        self.assertEqual(answered(read(y, LETTER)), [expected])

    def test_the_pad_is_reckoned_modulo_256(self):
        y = int.from_bytes([100] + [200] * 63, "big")
        expected = [0] + [a ^ b for a, b in zip(LETTER, [44] + [144] * 31)]
        expected += [1, 1, 100] + [200] * 63
        self.assertEqual(answered(read(y, LETTER)), [expected])

    def test_y_of_zero(self):
        self.assertEqual(answered(read(0, LETTER)), [[0] + LETTER + [1, 1] + [0] * 64])

    def test_y_of_one(self):
        expected = [0] + LETTER[:31] + [LETTER[31] ^ 1] + [1, 1] + [0] * 63 + [1]
        self.assertEqual(answered(read(1, LETTER)), [expected])

    def test_y_above_every_n(self):
        expected = [0] + [byte ^ 254 for byte in LETTER] + [1, 1] + [255] * 64
        self.assertEqual(answered(read(TOP, LETTER)), [expected])

    def test_y_of_no_n_is_taken_as_it_is(self):
        for y in (N, N - 1, N - 16, N // 2 + 1, 2 ** 511, TOP - 1, 5):
            told = answered(begin(3, N, 5), read(y, LETTER), work(8), read(y, LETTER))
            self.assertEqual([told[1], told[3]], [opened(y, LETTER)] * 2)

    def test_sealed_of_0_and_of_255(self):
        for sealed in ([0] * 32, [255] * 32, [0, 255] * 16):
            for y in (0, 7, value_of(3, N, 5), TOP):
                self.assertEqual(answered(read(y, sealed)), [opened(y, sealed)])

    def test_read_of_what_is_read(self):
        once = answered(read(value_of(4, TOP, 7), LETTER))[0][1:33]
        self.assertEqual(answered(read(value_of(4, TOP, 7), once))[0][1:33], LETTER)

    def test_chosen_at_random_with_a_fixed_seed(self):
        chance = random.Random(7)
        for turn in range(100):
            y = chance.randrange(2 ** chance.randrange(0, 513))
            sealed = [chance.randrange(256) for place in range(32)]
            self.assertEqual(answered(read(y, sealed)), [opened(y, sealed)])

    def test_it_begins_nothing(self):
        self.assertEqual(answered(read(5, LETTER), VALUE), [opened(5, LETTER), [-61]])


class LetterTest(unittest.TestCase):
    """Point a: whoever has done the squarings reads what was sealed by way of m."""

    def letter_of(self, k, n, x, m, letter, works):
        told = answered(seal(k, n, x, m, letter), begin(k, n, x), *works, VALUE)
        y = numbers_of(told[-1][1:65])[0]
        again = answered(read(y, told[0][1:33]))[0]
        self.assertEqual(again[33:35] + again[35:], told[0][33:])
        return again[1:33]

    def test_the_letter_is_read(self):
        for n, x, m in ((N, 2, 1008), (N, 4, 504), (TOP, 2, 512), (TOP, 16, 128),
                        (P * Q, 5, M), (P * Q, (P * Q - 1) // 2, M), (P * Q, 7, M // 2)):
            self.assertEqual(pow(x, m, n), 1)
            for k in (1, 2, 5, 10):
                for letter in (LETTER, [0] * 32, [255] * 32):
                    self.assertEqual(self.letter_of(k, n, x, m, letter, [work(ALL)]), letter)

    def test_however_it_was_done(self):
        for works in ([work(1)] * 64, [work(63), work(2)], [work(0), work(30), work(34)]):
            self.assertEqual(self.letter_of(6, P * Q, 5, M, LETTER, works), LETTER)

    def test_another_number_reads_another_letter(self):
        told = answered(seal(6, P * Q, 5, M))[0]
        self.assertEqual(told, opened(value_of(6, P * Q, 5), LETTER))
        self.assertNotEqual(answered(read(value_of(5, P * Q, 5), told[1:33]))[0][1:33], LETTER)

    def test_the_pad_of_both_is_asked_of_the_value(self):
        y = value_of(9, N, 2)
        sealed = answered(seal(9, N, 2, 1008))[0]
        self.assertEqual(sealed[33:], [1, 1] + row_of(y))
        self.assertEqual(answered(read(y, sealed[1:33]))[0][33:], [1, 1] + row_of(y))


if __name__ == "__main__":
    unittest.main()
