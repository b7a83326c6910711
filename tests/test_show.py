"""Promise 5: show; and what is said of it ahead of the promises."""

import random
import unittest

from tests.helper import (ALL, LETTER, N, SHOW, THREES, TOP, VALUE, answered, asked_lots, begin,
                          face, judged, proof_of, read, right, row_of, rows_of, seal, shown,
                          value_of, work)

# So many of 2^505 below it that the first lot for x of 3 and k of 2 is 0.
ZERO_LOT = 2 ** 505 - (3 + 3 * 3 ** 16 + 5 * 3 ** 4 + 7 * 2)


def show_of(k, n, x):
    return answered(begin(k, n, x), work(ALL), SHOW)[-1]


class ShowTest(unittest.TestCase):
    def test_one_round_by_hand(self):
        expected = [1] + row_of(4) + [1] + [2] + row_of(2) + row_of(16) + row_of(4) + [1]
        self.assertEqual(show_of(1, N, 2), expected)

    def test_two_rounds_by_hand(self):
        # The first lot is 1 + 2 + 3 * 2^16 + 5 * 2^4 + 7 * 2 = 196705. So a becomes 2^196709
        # and b 2^786836. By N, 2^504 leaves -1: multiples of 504 go from the exponents, and
        # the face lets the sign go.
        expected = [2] + row_of(16) + row_of(2 ** 298) + [2]
        expected += [2] + row_of(2) + row_of(2 ** 16) + row_of(16) + [2]
        expected += [2] + row_of(2 ** 149) + row_of(2 ** 92) + row_of(2 ** 298) + [1]
        self.assertEqual(show_of(2, N, 2), expected)

    def test_the_high_byte_is_first(self):
        told = show_of(1, N, 2 ** 100)
        self.assertEqual(told[1:65], [0] * 38 + [1] + [0] * 25)
        self.assertEqual(told[66:131], [2] + [0] * 51 + [16] + [0] * 12)

    def test_each_k(self):
        for k in range(1, 11):
            for n, x in ((N, 5), (N, (N - 1) // 2), (TOP, 7), (TOP, (TOP - 1) // 2), (THREES, 2)):
                self.assertEqual(show_of(k, n, x), shown(k, n, x), (k, n, x))

    def test_so_many_numbers_and_lots(self):
        for k in (1, 4, 10):
            told = show_of(k, N, 5)
            self.assertEqual(len(told), 1 + 64 * k + 1 + 194 * k)
            self.assertEqual(told[0], k)
            lots = told[1 + 64 * k:]
            self.assertEqual(lots[0], k)
            self.assertEqual(lots[1::194], [2] * k)
            self.assertEqual(lots[194::194], list(range(k, 0, -1)))

    def test_k_of_twenty(self):
        told = answered(begin(20, N, 7), work(ALL), SHOW)
        self.assertEqual(told, [[0, 0], [0, 0], shown(20, N, 7)])

    def test_chosen_at_random_with_a_fixed_seed(self):
        chance = random.Random(5)
        for turn in range(60):
            n = chance.randrange(2 ** chance.randrange(504, 512) + 1, 2 ** 512, 2)
            x = chance.randrange(2, (n + 1) // 2)
            k = chance.randrange(1, 7)
            self.assertEqual(show_of(k, n, x), shown(k, n, x), (k, n, x))

    def test_alike_minus_one(self):
        # 2^252 squared is 2^504, which leaves -1.
        expected = [1] + row_of(1) + asked_lots([(2 ** 252, 1, 1, 1)])
        self.assertEqual(show_of(1, N, 2 ** 252), expected)
        expected = [1] + row_of(2 ** 252) + asked_lots([(2 ** 126, 1, 2 ** 252, 1)])
        self.assertEqual(show_of(1, N, 2 ** 126), expected)

    def test_a_lot_is_asked_of_faces(self):
        # 2^256 squared is 2^512, which leaves -2^8; squared again it is 2^16.
        expected = [1] + row_of(2 ** 8) + asked_lots([(2 ** 256, 2 ** 16, 2 ** 8, 1)])
        self.assertEqual(show_of(1, N, 2 ** 256), expected)
        half = (N - 1) // 2
        for k, n, x in ((6, N, half), (6, TOP, 3), (8, N, 5)):
            for a, b, c, t in proof_of(k, n, x)[1]:
                self.assertLessEqual(max(a, b, c), (n - 1) // 2)
            self.assertEqual(show_of(k, n, x), shown(k, n, x))

    def test_a_lot_of_zero(self):
        # a to the power 0 is 1: a becomes c, and b stays what it is.
        lots = [(3, 3 ** 16, 3 ** 4, 2), (3 ** 4, 3 ** 16, 3 ** 8, 1)]
        expected = [2] + rows_of([3 ** 4, 3 ** 8]) + asked_lots(lots)
        self.assertEqual(show_of(2, ZERO_LOT, 3), expected)

    def test_a_face_of_zero(self):
        # The value, 3^65536, leaves 0 by 3^318; of the proof just the first number doesn't.
        first = face(3 ** 256, THREES)
        lots = [(3, 0, first, 4), (0, 0, 0, 3), (0, 0, 0, 2), (0, 0, 0, 1)]
        expected = [4] + row_of(first) + [0] * 192 + asked_lots(lots)
        self.assertEqual(show_of(4, THREES, 3), expected)

    def test_a_face_of_zero_within_the_proof_alone(self):
        # The value is 3^256, the first number 3^16, and the lot over 318.
        lots = [(3, face(3 ** 256, THREES), 3 ** 16, 3), (0, 0, 0, 2), (0, 0, 0, 1)]
        expected = [3] + row_of(3 ** 16) + [0] * 128 + asked_lots(lots)
        self.assertEqual(show_of(3, THREES, 3), expected)

    def test_faces_of_zero_alone(self):
        lots = [(3, 0, 0, 9)] + [(0, 0, 0, t) for t in range(8, 0, -1)]
        self.assertEqual(show_of(9, THREES, 3), [9] + [0] * 576 + asked_lots(lots))

    def test_a_divisor_in_common_without_a_face_of_zero(self):
        n = 3 * (2 ** 510 + 9)
        for x in (3, 15, 3 * 2 ** 500):
            self.assertEqual(show_of(5, n, x), shown(5, n, x))


class WhenShowTest(unittest.TestCase):
    def test_nothing_was_begun(self):
        self.assertEqual(answered(SHOW), [[-61]])
        self.assertEqual(answered(SHOW, SHOW, VALUE, work(1)), [[-61]] * 4)

    def test_begin_was_refused(self):
        for call in (begin(0, N, 5), begin(3, N + 1, 5), begin(3, N, 1), begin(21, N, 5)):
            self.assertEqual(answered(call, SHOW), [[-22, 0], [-61]])

    def test_the_other_calls_begin_nothing(self):
        others = (seal(1, N, 2, 1008), right(1, N, 2, 16, [4]), read(16, LETTER))
        for call in others:
            told = answered(call, SHOW)
            self.assertEqual((told[0][0], told[1]), (0, [-61]))

    def test_some_are_left(self):
        told = answered(begin(2, N, 5), SHOW, work(0), SHOW, work(3), SHOW, work(1), SHOW)
        self.assertEqual(told[1:7], [[-1, 0], [4, 0], [-1, 0], [1, 0], [-1, 0], [0, 0]])
        self.assertEqual(told[7], shown(2, N, 5))

    def test_work_in_many_small_steps(self):
        told = answered(begin(6, N, 5), *[work(1)] * 64, SHOW)
        self.assertEqual(told[-1], shown(6, N, 5))
        told = answered(begin(6, N, 5), work(30), work(0), work(7), work(26), work(1), SHOW)
        self.assertEqual(told[-1], shown(6, N, 5))

    def test_more_steps_than_are_left(self):
        for steps in (64, 65, 1000, ALL):
            self.assertEqual(answered(begin(6, N, 5), work(steps), SHOW)[-1], shown(6, N, 5))
        told = answered(begin(6, N, 5), work(60), work(60), work(1), work(ALL), SHOW)
        self.assertEqual(told[-1], shown(6, N, 5))

    def test_twice_and_the_value_behind_it(self):
        is_value = [0] + row_of(value_of(4, N, 5)) + [0]
        told = answered(begin(4, N, 5), work(16), SHOW, SHOW, VALUE, work(9), SHOW, VALUE)
        self.assertEqual(told[2:4], [shown(4, N, 5)] * 2)
        self.assertEqual(told[4:6], [is_value, [0, 0]])
        self.assertEqual(told[6:], [shown(4, N, 5), is_value])

    def test_after_a_second_begin(self):
        for k, n, x in ((3, TOP, 7), (2, N, 5), (5, N, 6), (6, TOP, 5)):
            told = answered(begin(4, N, 5), work(16), SHOW, begin(k, n, x), SHOW, work(ALL), SHOW)
            self.assertEqual(told[2], shown(4, N, 5))
            self.assertEqual(told[3:6], [[0, 0], [-1, 0], [0, 0]])
            self.assertEqual(told[6], shown(k, n, x))

    def test_after_a_second_begin_halfway(self):
        told = answered(begin(4, N, 5), work(3), begin(3, TOP, 7), work(8), SHOW)
        self.assertEqual(told[-1], shown(3, TOP, 7))

    def test_a_refused_begin_leaves_what_is_shown(self):
        for call in (begin(0, TOP, 7), begin(21, TOP, 7), begin(3, TOP - 1, 7), begin(3, TOP, 1)):
            told = answered(begin(4, N, 5), work(16), call, SHOW)
            self.assertEqual(told[2:], [[-22, 0], shown(4, N, 5)])

    def test_what_right_asks_is_what_show_asked(self):
        proof = proof_of(7, TOP, 5)[0]
        told = show_of(7, TOP, 5)
        asked = judged(7, TOP, 5, value_of(7, TOP, 5), proof)[1:]
        self.assertEqual(told[1 + 64 * 7:], asked)


if __name__ == "__main__":
    unittest.main()
