"""The interface: the list that is handed in, and the one that is given back."""

import unittest

from tests.helper import LETTER, N, TOP, VALUE, answered, begin, opened, row_of, seal, work
from timedletters.letters import answers


class FixedList(list):
    """A list that can't be changed, not for a while either."""

    def refuse(self, *values, **named):
        raise AssertionError("the list handed in was changed")

    __setitem__ = __delitem__ = __iadd__ = __imul__ = refuse
    append = extend = insert = pop = remove = clear = reverse = sort = refuse


def long_line():
    return (work(3) + begin(3, N, 5) + VALUE + seal(2, TOP, 3, 77) + work(8) + VALUE
            + begin(0, N, 5) + seal(0, N, 5, 0) + begin(1, TOP, 7) + work(1) + VALUE)


class ListTest(unittest.TestCase):
    def test_each_answer_has_its_length_before_it(self):
        self.assertEqual(answers(VALUE), [1, -61])
        self.assertEqual(answers(work(7)), [1, -61])
        self.assertEqual(answers(begin(3, N, 5)), [2, 0, 0])
        self.assertEqual(answers(begin(3, N, 1)), [2, -22, 0])
        self.assertEqual(answers(seal(3, N, 5, 0)), [2, -22, 0])
        self.assertEqual(answers(seal(1, N, 2, TOP)), [99] + opened(16, LETTER))

    def test_the_answers_stand_one_behind_another(self):
        line = begin(1, N, 2) + VALUE + work(1) + work(5) + VALUE + begin(1, N, 1) + work(0)
        expected = [2, 0, 0] + [2, -1, 0] + [2, 1, 0] + [2, 0, 0]
        expected += [66, 0] + row_of(16) + [0] + [2, -22, 0] + [2, 0, 0]
        self.assertEqual(answers(line), expected)

    def test_several_calls_in_one_list(self):
        told = answered(long_line())
        self.assertEqual(len(told), 11)
        self.assertEqual([answer[0] for answer in told], [-61, 0, -1, 0, 0, 0, -22, -22, 0, 1, -1])

    def test_what_is_handed_in_stays_as_it_was(self):
        line = long_line()
        before = list(line)
        answers(line)
        self.assertEqual(line, before)
        self.assertEqual(answers(FixedList(line)), answers(line))

    def test_nothing_is_kept_from_one_time_to_the_next(self):
        first = answers(long_line())
        self.assertEqual(answers(work(1) + VALUE), [1, -61, 1, -61])
        self.assertEqual(answers(long_line()), first)

    def test_what_is_given_back_is_new_each_time(self):
        line = seal(1, N, 2, TOP)
        answers(line).clear()
        self.assertEqual(answers(line), [99] + opened(16, LETTER))

    def test_whole_numbers_alone(self):
        given = answers(long_line())
        self.assertIs(type(given), list)
        self.assertEqual({type(number) for number in given}, {int})

    def test_five_thousand_calls(self):
        line = begin(10, N, 5) + work(1) * 4998 + VALUE
        told = answered(line)
        self.assertEqual(len(told), 5000)
        self.assertEqual([answer[0] for answer in told[1:1026]], list(range(1023, -1, -1)) + [0])
        self.assertEqual(told[1026:-1], [[0, 0]] * 3973)
        self.assertEqual(len(told[-1]), 66)

    def test_a_number_that_no_call_has(self):
        with self.assertRaises(ValueError):
            answers([99])


if __name__ == "__main__":
    unittest.main()
