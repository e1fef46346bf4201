"""answers(calls): the form of what is handed in and of what is given back."""

import unittest

from cutstreams.keeper import answers

from helper import BEGIN, OPEN, blocks, close, drop, feed, size, table


def joined(calls):
    return sum(calls, [])


MANY = joined([
    table(2, 3, 9, range(256)), OPEN, feed(0, [1, 2, 3] * 50), OPEN, feed(1, [9] * 20), close(1), feed(1, [9]),
    table(17, 1, 1), table(0, 1, 1), size(0), size(1), drop(0), size(0), feed(8, [1]), feed(1, [300]), BEGIN, OPEN,
    feed(0, blocks(0, 32)), feed(0, [1]), OPEN, feed(1, blocks(32, 32)), OPEN, feed(2, [1]), size(2)])


class WhatIsGivenBack(unittest.TestCase):

    def test_an_empty_list(self):
        self.assertEqual(answers([]), [])

    def test_each_call_number_by_number(self):
        self.assertEqual(answers([1]), [1, 0])
        self.assertEqual(answers([2, 0, 64, 64, 256] + [0] * 256), [1, 0])
        self.assertEqual(answers([3]), [2, 0, 0])
        self.assertEqual(answers([3, 4, 0, 2, 10, 20]), [2, 0, 0, 1, 0])
        self.assertEqual(answers([3, 5, 0]), [2, 0, 0, 1, 0])
        self.assertEqual(answers([3, 6, 0]), [2, 0, 0, 1, 0])
        self.assertEqual(answers([3, 4, 0, 2, 10, 20, 7, 0]), [2, 0, 0, 1, 0, 3, 0, 2, 0])
        self.assertEqual(answers([3, 5, 0, 7, 0]), [2, 0, 0, 1, 0, 3, 0, 0, 1])

    def test_a_refusal_is_one_number(self):
        self.assertEqual(answers([2, 17, 64, 64, 0]), [1, -2])
        self.assertEqual(answers([3, 2, 0, 64, 64, 256] + [0] * 256), [2, 0, 0, 1, -6])
        self.assertEqual(answers([3] * 9)[-2:], [1, -4])
        self.assertEqual(answers([4, 0, 1, 5]), [1, -1])
        self.assertEqual(answers([3, 4, 0, 2049] + [5] * 2049), [2, 0, 0, 1, -3])
        self.assertEqual(answers([5, 0]), [1, -1])
        self.assertEqual(answers([6, 8]), [1, -1])
        self.assertEqual(answers([7, 1000000]), [1, -1])

    def test_rows_that_look_like_calls_are_rows(self):
        self.assertEqual(answers([3, 4, 0, 3, 3, 3, 3, 3]), [2, 0, 0, 1, 0, 2, 0, 1])
        self.assertEqual(answers([4, 0, 3, 3, 3, 3, 3]), [1, -1, 2, 0, 0])

    def test_60_calls(self):
        self.assertEqual(answers([3] + [4, 0, 1, 5] * 58 + [7, 0]), [2, 0, 0] + [1, 0] * 58 + [3, 0, 58, 0])
        self.assertEqual(answers([3] * 60), joined([[2, 0, stream] for stream in range(8)]) + [1, -4] * 52)
        self.assertEqual(answers([1] * 60), [1, 0] * 60)

    def test_the_longest_list(self):
        calls = [3] + [4, 0, 30900] + [5] * 30900 + [7, 0]
        self.assertEqual(answers(calls), [2, 0, 0, 1, -3, 3, 0, 0, 0])

    def test_whole_numbers_in_a_list(self):
        given = answers(MANY)
        self.assertIs(type(given), list)
        self.assertEqual({type(number) for number in given}, {int})


class NothingIsKept(unittest.TestCase):

    def test_what_is_handed_in_is_not_changed(self):
        calls = list(MANY)
        answers(calls)
        self.assertEqual(calls, MANY)

    def test_two_times_alike(self):
        self.assertEqual(answers(MANY), answers(MANY))

    def test_nothing_from_one_time_to_the_next(self):
        alone = answers([3, 7, 0, 4, 0, 1, 5])
        answers([3] * 8 + [4, 0, 3, 1, 2, 3])
        self.assertEqual(answers([3, 7, 0, 4, 0, 1, 5]), alone)
        answers(table(0, 1, 1))
        # By the first rule 2,048 like bytes are 32 pieces: a rule of pieces of 1 would refuse them.
        self.assertEqual(answers(OPEN + feed(0, [5] * 2048)), [2, 0, 0, 1, 0])

    def test_at_its_beginning_it_is_as_behind_begin(self):
        calls = OPEN + feed(0, [5] * 2048) + size(0) + OPEN
        self.assertEqual(answers(BEGIN + calls), [1, 0] + answers(calls))

    def test_what_is_given_back_is_the_callers_own(self):
        first = answers([3, 7, 0])
        first.append(99)
        self.assertEqual(answers([3, 7, 0]), [2, 0, 0, 3, 0, 0, 0])


if __name__ == "__main__":
    unittest.main()
