"""answers(calls): the form of what is handed in and of what is given back."""

import unittest

from cutstreams.keeper import answers

from helper import (BEGIN, KEPT, OPEN, ask, blocks, close, drop, feed, has, pieces, read, shared, size, table, tail,
                    whole_state)


def joined(calls):
    return sum(calls, [])


MANY = joined([
    table(2, 3, 9, range(256)), OPEN, feed(0, [1, 2, 3] * 50), OPEN, feed(1, [9] * 20), close(1), feed(1, [9]),
    table(17, 1, 1), table(0, 1, 1), size(0), size(1), drop(0), size(0), feed(8, [1]), feed(1, [300]), BEGIN, OPEN,
    feed(0, blocks(0, 32)), feed(0, [1]), OPEN, feed(1, blocks(32, 32)), OPEN, feed(2, [1]), size(2), read(0, 60, 9),
    pieces(1), tail(2), has([1]), has([4294967295]), shared(0, 1), shared(1, 1), shared(0, 8), KEPT, drop(1),
    feed(2, [1] * 70), read(2), pieces(2), tail(2), tail(3), close(2), tail(2), has([1] * 6), KEPT])


class WhatIsGivenBack(unittest.TestCase):

    def test_an_empty_list(self):
        self.assertEqual(answers([]), [])

    def test_each_call_number_by_number(self):
        self.assertEqual(answers([1]), [1, 0])
        self.assertEqual(answers([2, 0, 64, 64, 256] + [0] * 256), [1, 0])
        self.assertEqual(answers([3]), [2, 0, 0])
        self.assertEqual(answers([3, 4, 0, 2, 10, 20]), [2, 0, 0, 1, 0])
        self.assertEqual(answers([3, 5, 0]), [2, 0, 0, 1, 0])
        self.assertEqual(answers([3, 6, 0]), [2, 0, 0, 1, 0])
        self.assertEqual(answers([3, 4, 0, 2, 10, 20, 7, 0]), [2, 0, 0, 1, 0, 3, 0, 2, 0])
        self.assertEqual(answers([3, 5, 0, 7, 0]), [2, 0, 0, 1, 0, 3, 0, 0, 1])
        fed = [3, 4, 0, 66] + [9] * 64 + [10, 20]
        self.assertEqual(answers(fed + [8, 0, 63, 2]), [2, 0, 0, 1, 0, 3, 0, 9, 10])
        self.assertEqual(answers(fed + [8, 0, 66, 2]), [2, 0, 0, 1, 0, 1, 0])
        self.assertEqual(answers(fed + [9, 0]), [2, 0, 0, 1, 0, 2, 0, 64])
        self.assertEqual(answers(fed + [10, 0]), [2, 0, 0, 1, 0, 3, 0, 10, 20])
        self.assertEqual(answers(fed + [11, 2, 10, 20]), [2, 0, 0, 1, 0, 2, 0, 0])
        self.assertEqual(answers(fed + [11, 64] + [9] * 64), [2, 0, 0, 1, 0, 2, 0, 1])
        self.assertEqual(answers(fed + [12, 0, 0]), [2, 0, 0, 1, 0, 2, 0, 64])
        self.assertEqual(answers(fed + [13]), [2, 0, 0, 1, 0, 4, 0, 66, 2, 1])

    def test_a_refusal_is_one_number(self):
        self.assertEqual(answers([2, 17, 64, 64, 0]), [1, -2])
        self.assertEqual(answers([3, 2, 0, 64, 64, 256] + [0] * 256), [2, 0, 0, 1, -6])
        self.assertEqual(answers([3] * 9)[-2:], [1, -4])
        self.assertEqual(answers([4, 0, 1, 5]), [1, -1])
        self.assertEqual(answers([3, 4, 0, 2049] + [5] * 2049), [2, 0, 0, 1, -3])
        self.assertEqual(answers([5, 0]), [1, -1])
        self.assertEqual(answers([6, 8]), [1, -1])
        self.assertEqual(answers([7, 1000000]), [1, -1])
        self.assertEqual(answers([8, 0, 0, 5]), [1, -1])
        self.assertEqual(answers([8, 8, 1000000, 1000000]), [1, -1])
        self.assertEqual(answers([9, 7]), [1, -1])
        self.assertEqual(answers([10, 1000000]), [1, -1])
        self.assertEqual(answers([3, 12, 0, 1, 12, 1, 0]), [2, 0, 0, 1, -1, 1, -1])

    def test_no_piece_and_nothing_kept(self):
        self.assertEqual(answers([11, 0, 13]), [2, 0, 0, 4, 0, 0, 0, 0])
        self.assertEqual(answers([11, 1, 4294967295]), [2, 0, 0])

    def test_bytes_and_lengths_come_without_a_count(self):
        calls = OPEN + feed(0, [2] * 130)
        self.assertEqual(answers(calls + read(0))[5:], [131, 0] + [2] * 130)
        self.assertEqual(answers(calls + pieces(0))[5:], [3, 0, 64, 64])
        self.assertEqual(answers(calls + tail(0))[5:], [3, 0, 2, 2])

    def test_rows_that_look_like_calls_are_rows(self):
        self.assertEqual(answers([3, 4, 0, 3, 3, 3, 3, 3]), [2, 0, 0, 1, 0, 2, 0, 1])
        self.assertEqual(answers([4, 0, 3, 3, 3, 3, 3]), [1, -1, 2, 0, 0])
        self.assertEqual(answers([11, 3, 13, 13, 13, 13]), [2, 0, 0, 4, 0, 0, 0, 0])

    def test_60_calls(self):
        self.assertEqual(answers([3] + [4, 0, 1, 5] * 58 + [7, 0]), [2, 0, 0] + [1, 0] * 58 + [3, 0, 58, 0])
        self.assertEqual(answers([3] * 60), joined([[2, 0, stream] for stream in range(8)]) + [1, -4] * 52)
        self.assertEqual(answers([1] * 60), [1, 0] * 60)
        self.assertEqual(answers([13] * 60), [4, 0, 0, 0, 0] * 60)

    def test_the_longest_answer(self):
        calls = OPEN + feed(0, [5] * 2048) + read(0) * 58
        self.assertEqual(answers(calls), [2, 0, 0, 1, 0] + ([2049, 0] + [5] * 2048) * 58)

    def test_the_longest_list(self):
        calls = [3] + [4, 0, 30900] + [5] * 30900 + [7, 0]
        self.assertEqual(answers(calls), [2, 0, 0, 1, -3, 3, 0, 0, 0])
        self.assertEqual(answers([13, 11, 30900] + [5] * 30900 + [13]), [4, 0, 0, 0, 0, 2, 0, 0, 4, 0, 0, 0, 0])
        parts = OPEN * 8 + joined([feed(stream, [stream] * 2048) for stream in range(8)])
        rest = has([7] * (31000 - len(parts) - 3)) + KEPT
        self.assertEqual(len(parts + rest), 31000)
        self.assertEqual(answers(parts + rest)[-8:], [2, 0, 0, 4, 0, 512, 256, 8])

    def test_whole_numbers_in_a_list(self):
        given = answers(MANY)
        self.assertIs(type(given), list)
        self.assertEqual({type(number) for number in given}, {int})


class NothingIsKept(unittest.TestCase):

    def test_what_is_handed_in_is_not_changed(self):
        calls = list(MANY)
        answers(calls)
        self.assertEqual(calls, MANY)

    def test_two_times_alike(self):
        self.assertEqual(answers(MANY), answers(MANY))

    def test_nothing_from_one_time_to_the_next(self):
        alone = answers([3, 7, 0, 4, 0, 1, 5])
        answers([3] * 8 + [4, 0, 3, 1, 2, 3])
        self.assertEqual(answers([3, 7, 0, 4, 0, 1, 5]), alone)
        answers(table(0, 1, 1))
        # By the first rule 2,048 like bytes are 32 pieces: a rule of pieces of 1 would refuse them.
        self.assertEqual(answers(OPEN + feed(0, [5] * 2048)), [2, 0, 0, 1, 0])

    def test_no_stream_piece_or_rule_from_one_time_to_the_next(self):
        alone = ask(*whole_state(), has([5] * 64), OPEN, feed(0, [6] * 70), pieces(0), KEPT)
        answers(table(0, 3, 3) + OPEN * 8 + joined([feed(stream, [5] * 64) for stream in range(8)]))
        self.assertEqual(ask(*whole_state(), has([5] * 64), OPEN, feed(0, [6] * 70), pieces(0), KEPT), alone)

    def test_nothing_is_kept_of_a_list_that_failed(self):
        with self.assertRaises(ValueError):
            answers(table(0, 3, 3) + OPEN + feed(0, [5] * 64) + [99])
        self.assertEqual(answers(KEPT + OPEN + feed(0, [5] * 65) + pieces(0)), [4, 0, 0, 0, 0, 2, 0, 0, 1, 0, 2, 0, 64])

    def test_at_its_beginning_it_is_as_behind_begin(self):
        calls = OPEN + feed(0, [5] * 2048) + size(0) + OPEN
        self.assertEqual(answers(BEGIN + calls), [1, 0] + answers(calls))
        asked = KEPT + has([0] * 64) + OPEN + feed(0, [5] * 130) + pieces(0) + tail(0) + KEPT
        self.assertEqual(answers(BEGIN + asked), [1, 0] + answers(asked))
        behind = table(3, 5, 9, range(256)) + OPEN * 3 + feed(1, [5] * 80) + close(1) + BEGIN
        self.assertEqual(answers(behind + asked), answers(behind) + answers(asked))

    def test_what_is_given_back_is_the_callers_own(self):
        first = answers([3, 7, 0])
        first.append(99)
        self.assertEqual(answers([3, 7, 0]), [2, 0, 0, 3, 0, 0, 0])


class Watched(list):
    """A list that tells when it is changed, also where that is undone later."""

    def refuse(self, *what):
        raise AssertionError("what is handed in is changed")

    append = extend = insert = pop = remove = clear = sort = reverse = refuse
    __setitem__ = __delitem__ = __iadd__ = __imul__ = refuse


class NotForAWhileEither(unittest.TestCase):

    def test_no_change_that_is_undone_later(self):
        self.assertEqual(answers(Watched(MANY)), answers(MANY))


if __name__ == "__main__":
    unittest.main()
