"""Promise 6: right; and point b."""

import random
import unittest
from math import gcd

from tests.helper import (ALL, LEAST, LETTER, N, SHOW, THREES, TOP, VALUE, answered, asked_lots,
                          begin, face, judged, numbers_of, proof_of, read, right, row_of, rows_of,
                          shown, value_of, work)

REFUSED = [-22, 0]
UNFIT_NUMBER = [-13, 0]


def told_of(k, n, x):
    """What value and show tell: y and the numbers of the proof."""
    told = answered(begin(k, n, x), work(ALL), VALUE, SHOW)
    return numbers_of(told[2][1:65])[0], numbers_of(told[3][1:1 + 64 * k])


def is_small(number, n):
    return 1 <= number <= (n - 1) // 2


def expected_of(k, n, x, y, proof):
    if all(is_small(number, n) for number in [y] + proof):
        return judged(k, n, x, y, proof)
    return UNFIT_NUMBER


def right_of(k, n, x, y, proof):
    return answered(right(k, n, x, y, proof))[0]


class RightTest(unittest.TestCase):
    def test_one_round_by_hand(self):
        expected = [0] + [1] + [2] + row_of(2) + row_of(16) + row_of(4) + [1]
        self.assertEqual(right_of(1, N, 2, 16, [4]), expected)

    def test_two_rounds_by_hand(self):
        # In the end a is 2^482 and b is 2^460: a squared, 2^964, leaves -2^460.
        expected = [0] + [2]
        expected += [2] + row_of(2) + row_of(2 ** 16) + row_of(16) + [2]
        expected += [2] + row_of(2 ** 149) + row_of(2 ** 92) + row_of(2 ** 298) + [1]
        self.assertEqual(right_of(2, N, 2, 2 ** 16, [16, 2 ** 298]), expected)

    def test_one_round_that_is_wrong_by_hand(self):
        for y, c in ((17, 4), (16, 5), (4, 16), (1, 1)):
            expected = [-13, 1, 2] + row_of(2) + row_of(y) + row_of(c) + [1]
            self.assertEqual(right_of(1, N, 2, y, [c]), expected)

    def test_of_what_value_and_show_told(self):
        for k in range(1, 11):
            for n, x in ((N, 5), (N, (N - 1) // 2), (TOP, 7), (THREES, 2), (LEAST + 9, 12)):
                self.assertEqual(gcd(n, x), 1)
                y, proof = told_of(k, n, x)
                lots = proof_of(k, n, x)[1]
                self.assertEqual(right_of(k, n, x, y, proof), [0] + asked_lots(lots), (k, n, x))

    def test_chosen_at_random_with_a_fixed_seed(self):
        chance = random.Random(6)
        for turn in range(60):
            n = chance.randrange(2 ** chance.randrange(504, 512) + 1, 2 ** 512, 2)
            x = chance.randrange(2, (n + 1) // 2)
            k = chance.randrange(1, 7)
            y, proof = told_of(k, n, x)
            self.assertEqual(right_of(k, n, x, y, proof)[0], 0, (k, n, x))
            self.assertEqual(right_of(k, n, x, y, proof), judged(k, n, x, y, proof))

    def test_k_of_twenty(self):
        # By N, 2 to the power 504 is alike 1: a proof of powers of 2 needs no squarings.
        exponent, power, proof = 1, 2 ** 2 ** 20 % 504, []
        y = 2 ** power
        for t in range(20, 0, -1):
            middle = exponent * pow(2, 2 ** (t - 1), 504) % 504
            proof.append(2 ** middle)
            r = (N + 2 ** exponent + 3 * 2 ** power + 5 * 2 ** middle + 7 * t) % 2 ** 32
            exponent, power = (exponent * r + middle) % 504, (middle * r + power) % 504
        told = right_of(20, N, 2, y, proof)
        self.assertEqual(told, judged(20, N, 2, y, proof))
        self.assertEqual(told[:2], [0, 20])

    def test_one_byte_of_y_changed(self):
        for k, n, x in ((1, TOP, 7), (4, N, 5)):
            y, proof = told_of(k, n, x)
            for place in range(64):
                row = row_of(y)
                row[place] ^= 1
                changed = numbers_of(row)[0]
                told = right_of(k, n, x, changed, proof)
                self.assertEqual(told, expected_of(k, n, x, changed, proof), place)
                self.assertEqual(told[0], -13)

    def test_one_byte_of_the_proof_changed(self):
        for k, n, x in ((1, TOP, 7), (4, N, 5)):
            y, proof = told_of(k, n, x)
            for place in range(64 * k):
                rows = rows_of(proof)
                rows[place] ^= 128
                changed = numbers_of(rows)
                told = right_of(k, n, x, y, changed)
                self.assertEqual(told, expected_of(k, n, x, y, changed), place)
                self.assertEqual(told[0], -13)

    def test_what_is_right_of_another(self):
        y, proof = told_of(4, N, 5)
        self.assertEqual(right_of(4, N, 6, y, proof), judged(4, N, 6, y, proof))
        self.assertEqual(right_of(4, N, 6, y, proof)[0], -13)
        self.assertEqual(right_of(4, TOP, 5, y % (TOP // 2), proof)[0], -13)
        swapped = [proof[1], proof[0]] + proof[2:]
        self.assertEqual(right_of(4, N, 5, y, swapped), judged(4, N, 5, y, swapped))
        self.assertEqual(right_of(4, N, 5, y, swapped)[0], -13)

    def test_numbers_of_one(self):
        # 2^252 squared is alike -1, and so alike 1: its face is small.
        self.assertEqual(right_of(1, N, 2 ** 252, 1, [1]), [0] + asked_lots([(2 ** 252, 1, 1, 1)]))
        lots = [(2 ** 126, 1, 2 ** 252, 1)]
        self.assertEqual(right_of(1, N, 2 ** 126, 1, [2 ** 252]), [0] + asked_lots(lots))

    def test_a_lot_of_zero(self):
        n = 2 ** 505 - (2 + 3 * 16 + 5 * 4 + 7)
        self.assertEqual(right_of(1, n, 2, 16, [4]), [0] + asked_lots([(2, 16, 4, 1)]))
        # a becomes c and b stays: that y is c squared is all that counts then.
        n = 2 ** 505 - (2 + 3 * 25 + 5 * 5 + 7)
        self.assertEqual(right_of(1, n, 2, 25, [5]), [0] + asked_lots([(2, 25, 5, 1)]))

    def test_a_becomes_zero_and_then_the_lot_is_zero(self):
        # The first number times x is n, and the second is chosen so that its lot is 0:
        # then a, 0 to the power 0 times the second, is the second.
        x, y, first = 2 ** 255 + 95, 12345, 2 ** 253 + 51
        n = x * first
        r = (n + x + 3 * y + 5 * first + 7 * 3) % 2 ** 32
        b = face(pow(first, r, n) * y, n)
        second = -(n + 3 * b + 7 * 2) * pow(5, -1, 2 ** 32) % 2 ** 32
        lots = [(x, y, first, 3), (0, b, second, 2), (second, b, 9, 1)]
        told = right_of(3, n, x, y, [first, second, 9])
        self.assertEqual(told, [-13] + asked_lots(lots))

    def test_the_last_round_counts(self):
        # Right but for the last number of the proof: it's the end alone that differs.
        y, proof = told_of(5, N, 5)
        changed = proof[:4] + [proof[4] - 1]
        told = right_of(5, N, 5, y, changed)
        self.assertEqual(told, judged(5, N, 5, y, changed))
        self.assertEqual((told[0], told[1]), (-13, 5))
        lots = proof_of(5, N, 5)[1]
        a, b, c, t = lots[4]
        self.assertEqual(told[1:], asked_lots(lots[:4] + [(a, b, c - 1, t)]))


class NotSmallTest(unittest.TestCase):
    def test_y(self):
        for k, n, x in ((1, N, 5), (5, N, 5), (5, THREES, 2)):
            y, proof = told_of(k, n, x)
            for other in (0, (n + 1) // 2, n - y, n - 1, n, n + y, n + 1, TOP):
                self.assertEqual(right_of(k, n, x, other, proof), UNFIT_NUMBER, other)

    def test_a_number_of_the_proof(self):
        for k, n, x in ((1, N, 5), (5, N, 5), (5, THREES, 2)):
            y, proof = told_of(k, n, x)
            for place in range(k):
                c = proof[place]
                for other in (0, (n + 1) // 2, n - c, n - 1, n, n + c, n + 1, TOP):
                    changed = proof[:place] + [other] + proof[place + 1:]
                    self.assertEqual(right_of(k, n, x, y, changed), UNFIT_NUMBER, (place, other))

    def test_the_least_and_the_greatest_that_are_small(self):
        for n in (N, TOP, THREES):
            y, proof = told_of(3, n, 2)
            for other in (1, (n - 1) // 2):
                told = right_of(3, n, 2, other, proof)
                self.assertEqual(told, judged(3, n, 2, other, proof))
                self.assertEqual(told[:2], [-13, 3])
                for place in range(3):
                    changed = proof[:place] + [other] + proof[place + 1:]
                    told = right_of(3, n, 2, y, changed)
                    self.assertEqual(told, judged(3, n, 2, y, changed))
                    self.assertEqual(told[:2], [-13, 3])

    def test_what_is_told_with_a_face_of_zero(self):
        for k in (3, 4, 9):
            y, proof = told_of(k, THREES, 3)
            self.assertEqual(proof[-1], 0)
            self.assertEqual(right_of(k, THREES, 3, y, proof), UNFIT_NUMBER)

    def test_a_divisor_in_common_without_a_face_of_zero(self):
        n = 3 * (2 ** 510 + 9)
        y, proof = told_of(5, n, 15)
        self.assertEqual(right_of(5, n, 15, y, proof), judged(5, n, 15, y, proof))
        self.assertEqual(right_of(5, n, 15, y, proof)[:2], [0, 5])


class NotFitTest(unittest.TestCase):
    def test_n_is_even(self):
        for n in (LEAST, LEAST + 2, 2 ** 512 - 2):
            self.assertEqual(right_of(1, n, 2, 16, [4]), REFUSED)

    def test_n_is_below_the_least(self):
        for n in (0, 1, 3, 15, 2 ** 503 + 1, LEAST - 1):
            self.assertEqual(right_of(1, n, 2, 16, [4]), REFUSED)

    def test_x_is_not_small_or_is_one(self):
        for n in (N, TOP):
            self.assertEqual(right_of(1, n, 1, 1, [1]), REFUSED)
            for x in (0, (n + 1) // 2, n - 2, n - 1, n, TOP):
                self.assertEqual(right_of(1, n, x, 16, [4]), REFUSED)

    def test_k_is_outside(self):
        for k in (0, 21, 22, 2 ** 31, ALL):
            for proof in ([], [4], [4] * 10, [4] * 20, [0] * 20):
                self.assertEqual(right_of(k, N, 2, 16, proof), REFUSED)

    def test_with_a_proof_of_any_length(self):
        for k, n, x in ((3, N + 1, 2), (3, LEAST - 1, 2), (10, N, 1), (1, N, 0)):
            for proof in ([], [4], [4] * 3, [4] * 20):
                self.assertEqual(right_of(k, n, x, 16, proof), REFUSED)

    def test_ahead_of_numbers_that_are_not_small(self):
        for k, n, x in ((0, N, 2), (1, N + 1, 2), (1, N, 1), (1, 0, 0)):
            self.assertEqual(right_of(k, n, x, 0, [4]), REFUSED)
            self.assertEqual(right_of(k, n, x, 16, [0]), REFUSED)

    def test_the_call_behind_is_found(self):
        for proof in ([], [4], [4] * 20):
            told = answered(right(0, N, 2, 16, proof), right(1, N, 2, 16, [4]), VALUE)
            self.assertEqual(told, [REFUSED, judged(1, N, 2, 16, [4]), [-61]])


class ObjectStaysTest(unittest.TestCase):
    def calls(self):
        y, proof = told_of(3, TOP, 7)
        return [right(3, TOP, 7, y, proof), right(3, TOP, 7, y + 1, proof),
                right(3, TOP, 7, 0, proof), right(3, TOP, 1, y, proof)]

    def test_right_after_begin_and_between_works(self):
        for call in self.calls() + [read(7, LETTER)]:
            told = answered(begin(4, N, 5), call, VALUE, work(5), call, SHOW, work(0), call,
                            work(11), call, VALUE, call, SHOW)
            self.assertEqual(told[2:4], [[-1, 0], [11, 0]])
            self.assertEqual(told[5:7], [[-1, 0], [11, 0]])
            self.assertEqual(told[8], [0, 0])
            self.assertEqual(told[10], [0] + row_of(value_of(4, N, 5)) + [0])
            self.assertEqual(told[12], shown(4, N, 5))
            self.assertEqual([told[place] for place in (4, 7, 9, 11)], [told[1]] * 4)

    def test_it_needs_nothing_begun_and_begins_nothing(self):
        for call in self.calls():
            told = answered(call, work(1), call, VALUE, call, SHOW)
            self.assertEqual([told[1], told[3], told[5]], [[-61]] * 3)
            self.assertEqual([told[2], told[4]], [told[0]] * 2)

    def test_what_was_begun_does_not_count(self):
        first = answered(*self.calls())
        behind = answered(begin(4, N, 5), work(16), *self.calls())
        self.assertEqual(behind[2:], first)
        self.assertEqual([answer[:2] for answer in first],
                         [[0, 3], [-13, 3], UNFIT_NUMBER, REFUSED])


if __name__ == "__main__":
    unittest.main()
