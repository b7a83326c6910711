"""The interface: the list that is handed in, and the one that is given back."""

import unittest

from tests.helper import (ALL, LETTER, N, SHOW, TOP, VALUE, answered, asked_lots, begin, judged,
                          opened, proof_of, read, right, row_of, rows_of, seal, shown, value_of,
                          work)
from timedletters.letters import answers


class FixedList(list):
    """A list that can't be changed, not for a while either."""

    def refuse(self, *values, **named):
        raise AssertionError("the list handed in was changed")

    __setitem__ = __delitem__ = __iadd__ = __imul__ = refuse
    append = extend = insert = pop = remove = clear = reverse = sort = refuse


def long_line():
    return (work(3) + begin(3, N, 5) + VALUE + seal(2, TOP, 3, 77) + work(8) + VALUE
            + begin(0, N, 5) + seal(0, N, 5, 0) + begin(1, TOP, 7) + work(1) + VALUE
            + SHOW + right(1, N, 2, 16, [4]) + right(1, N, 2, 17, [4]) + right(1, N, 2, 0, [4])
            + right(0, N, 2, 16, []) + read(16, LETTER) + work(1) + SHOW)


class ListTest(unittest.TestCase):
    def test_each_answer_has_its_length_before_it(self):
        self.assertEqual(answers(VALUE), [1, -61])
        self.assertEqual(answers(work(7)), [1, -61])
        self.assertEqual(answers(begin(3, N, 5)), [2, 0, 0])
        self.assertEqual(answers(begin(3, N, 1)), [2, -22, 0])
        self.assertEqual(answers(seal(3, N, 5, 0)), [2, -22, 0])
        self.assertEqual(answers(seal(1, N, 2, TOP)), [99] + opened(16, LETTER))
        self.assertEqual(answers(SHOW), [1, -61])
        self.assertEqual(answers(right(1, N, 2, 0, [4])), [2, -13, 0])
        self.assertEqual(answers(right(0, N, 2, 16, [])), [2, -22, 0])
        self.assertEqual(answers(read(16, LETTER)), [99] + opened(16, LETTER))

    def test_each_answer_with_lots_has_its_length_before_it(self):
        lots = asked_lots([(2, 16, 4, 1)])
        told = [2, 0, 0] + [2, 0, 0] + [1 + 64 + 195, 1] + row_of(4) + lots
        self.assertEqual(answers(begin(1, N, 2) + work(2) + SHOW), told)
        self.assertEqual(answers(right(1, N, 2, 16, [4])), [1 + 195, 0] + lots)
        lots = asked_lots([(2, 17, 4, 1)])
        self.assertEqual(answers(right(1, N, 2, 17, [4])), [1 + 195, -13] + lots)

    def test_the_answers_stand_one_behind_another(self):
        line = begin(1, N, 2) + VALUE + work(1) + work(5) + VALUE + begin(1, N, 1) + work(0)
        expected = [2, 0, 0] + [2, -1, 0] + [2, 1, 0] + [2, 0, 0]
        expected += [66, 0] + row_of(16) + [0] + [2, -22, 0] + [2, 0, 0]
        self.assertEqual(answers(line), expected)

    def test_several_calls_in_one_list(self):
        told = answered(long_line())
        firsts = [-61, 0, -1, 0, 0, 0, -22, -22, 0, 1, -1, -1, 0, -13, -13, -22, 0, 0, 1]
        self.assertEqual([answer[0] for answer in told], firsts)

    def test_all_seven_kinds_on_one_object(self):
        y, proof = value_of(6, N, 2), proof_of(6, N, 2)[0]
        told = answered(
            SHOW, seal(6, N, 2, 1008), begin(6, N, 2), read(y, LETTER), work(40), SHOW, VALUE,
            right(6, N, 2, y, proof), work(ALL), VALUE, SHOW, right(6, N, 2, y + 1, proof),
            begin(0, N, 2), SHOW, seal(6, N, 2, 0), VALUE, begin(1, TOP, 7), VALUE, work(2), SHOW)
        sealed, is_value, is_shown = opened(y, LETTER), [0] + row_of(y) + [0], shown(6, N, 2)
        self.assertEqual(told[:7], [[-61], sealed, [0, 0], sealed, [24, 0], [-1, 0], [-1, 0]])
        self.assertEqual(told[7], judged(6, N, 2, y, proof))
        self.assertEqual(told[8:11], [[0, 0], is_value, is_shown])
        self.assertEqual(told[11], judged(6, N, 2, y + 1, proof))
        self.assertEqual(told[12:16], [[-22, 0], is_shown, [-22, 0], is_value])
        self.assertEqual(told[16:], [[0, 0], [-1, 0], [0, 0], shown(1, TOP, 7)])

    def test_a_proof_goes_from_one_list_to_the_next(self):
        told = answered(seal(8, N, 2, 1008), begin(8, N, 2), work(ALL), VALUE, SHOW)
        y, rows = told[3][1:65], told[4][1:513]
        again = [5, 8] + [64] + row_of(N) + [64] + row_of(2) + [64] + y + [512] + rows
        again += [6, 64] + y + [32] + told[0][1:33]
        checked = answered(again)
        self.assertEqual(checked[0], [0] + told[4][513:])
        self.assertEqual(checked[1], [0] + LETTER + told[0][33:])
        self.assertEqual(rows, rows_of(proof_of(8, N, 2)[0]))

    def test_what_is_handed_in_stays_as_it_was(self):
        line = long_line()
        before = list(line)
        answers(line)
        self.assertEqual(line, before)
        self.assertEqual(answers(FixedList(line)), answers(line))

    def test_nothing_is_kept_from_one_time_to_the_next(self):
        first = answers(long_line())
        self.assertEqual(answers(work(1) + VALUE + SHOW), [1, -61, 1, -61, 1, -61])
        self.assertEqual(answers(long_line()), first)

    def test_what_is_given_back_is_new_each_time(self):
        line = seal(1, N, 2, TOP)
        answers(line).clear()
        self.assertEqual(answers(line), [99] + opened(16, LETTER))

    def test_whole_numbers_alone(self):
        given = answers(long_line())
        self.assertIs(type(given), list)
        self.assertEqual({type(number) for number in given}, {int})

    def test_five_thousand_calls(self):
        line = begin(10, N, 5) + work(1) * 4998 + VALUE
        told = answered(line)
        self.assertEqual(len(told), 5000)
        self.assertEqual([answer[0] for answer in told[1:1026]], list(range(1023, -1, -1)) + [0])
        self.assertEqual(told[1026:-1], [[0, 0]] * 3973)
        self.assertEqual(len(told[-1]), 66)

    def test_many_shows(self):
        told = answered(begin(10, N, 5), work(1024), *[SHOW] * 380)
        self.assertEqual(told[2:], [shown(10, N, 5)] * 380)

    def test_a_number_that_no_call_has(self):
        with self.assertRaises(ValueError):
            answers([99])


if __name__ == "__main__":
    unittest.main()
