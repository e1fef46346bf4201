"""has and shared: which pieces some stream has, and which two streams have both."""

import unittest

from helper import (BEGIN, DONE, KEPT, OPEN, TOP_BIT, ask, block, blocks, close, drop, ended_by, feed, has, last,
                    shared, size, table, text)

NO_STREAM = [-1]
YES = [0, 1]
NO = [0, 0]

THREES = table(0, 3, 8)


class Has(unittest.TestCase):

    def test_a_piece_of_an_open_stream(self):
        calls = [OPEN, feed(0, block(3) + block(4))]
        self.assertEqual(ask(*calls, has(block(3)), has(block(4)), has(block(5)))[-3:], [YES, YES, NO])

    def test_a_piece_of_a_closed_stream(self):
        calls = [OPEN, feed(0, block(3) + [1, 2]), close(0)]
        self.assertEqual(ask(*calls, has(block(3)), has([1, 2]), has([1]), has([2, 1]))[-4:], [YES, YES, NO, NO])

    def test_a_piece_of_any_stream(self):
        calls = [OPEN] * 8 + [feed(stream, block(stream)) for stream in range(8)]
        self.assertEqual(ask(*calls, *[has(block(stream)) for stream in range(9)])[-9:], [YES] * 8 + [NO])

    def test_a_piece_of_most_bytes(self):
        calls = [table(1, 1, 8, [TOP_BIT] * 256), OPEN, feed(0, [5] * 12)]
        self.assertEqual(ask(*calls, has([5] * 8), has([5] * 4), close(0), has([5] * 4))[-4:], [YES, NO, DONE, YES])

    def test_a_piece_anywhere_in_a_stream(self):
        calls = [THREES, OPEN, feed(0, text("abcdefghi"))]
        self.assertEqual(ask(*calls, has(text("abc")), has(text("def")), has(text("ghi")))[-3:], [YES] * 3)

    def test_an_open_streams_tail_is_no_piece(self):
        calls = [THREES, OPEN, feed(0, text("abcx"))]
        self.assertEqual(last(*calls, has(text("x"))), NO)
        self.assertEqual(last(*calls, close(0), has(text("x"))), YES)
        self.assertEqual(ask(*calls, feed(0, text("yz")), has(text("x")), has(text("xyz")))[-2:], [NO, YES])

    def test_a_tail_that_is_a_piece_of_another_stream(self):
        calls = [THREES, OPEN, OPEN, feed(0, text("x")), feed(1, text("x")), close(1)]
        self.assertEqual(last(*calls, has(text("x"))), YES)
        self.assertEqual(last(*calls, drop(1), has(text("x"))), NO)
        self.assertEqual(last(*calls, drop(0), has(text("x"))), YES)

    def test_no_bytes(self):
        for calls in ([], [OPEN], [OPEN, close(0)], [OPEN, feed(0, block(3))], [OPEN, feed(0, block(3)), close(0)]):
            self.assertEqual(last(*calls, has([])), NO)

    def test_nothing_taken(self):
        self.assertEqual(ask(has([]), has([0]), has([0] * 64)), [NO] * 3)

    def test_just_these_bytes(self):
        calls = [THREES, OPEN, feed(0, text("abcdef"))]
        for some in ("ab", "bc", "abcd", "abcdef", "cde", "bca", "abC", "bcd"):
            self.assertEqual(last(*calls, has(text(some))), NO, some)

    def test_the_same_number_and_length(self):
        # In the table at first each row's number is 0.
        self.assertEqual(last(OPEN, feed(0, [1] * 64), has([1] * 63 + [2])), NO)
        # Twice 1 and 2 is as much as twice 2 and 0.
        calls = [table(0, 2, 2, range(256)), OPEN, feed(0, [1, 2])]
        self.assertEqual(ask(*calls, has([2, 0]), has([1, 2]))[-2:], [NO, YES])

    def test_numbers_above_255(self):
        calls = [table(0, 1, 1), OPEN, feed(0, [0, 1, 255])]
        for number in (256, 257, 511, 65536, 4294967295):
            self.assertEqual(last(*calls, has([number])), NO, number)
        calls = [THREES, OPEN, feed(0, [0, 1, 2, 255, 255, 255])]
        for some in ([256, 1, 2], [0, 257, 2], [0, 1, 258], [0, 1, 4294967042], [511, 511, 511], [0, 1, 2, 256]):
            self.assertEqual(last(*calls, has(some)), NO, some)

    def test_a_longer_row_than_any_stream(self):
        self.assertEqual(last(OPEN, feed(0, [5] * 64), has([5] * 30900)), NO)
        self.assertEqual(ask(OPEN, has([300] * 30900), OPEN), [[0, 0], NO, [0, 1]])

    def test_behind_a_drop_of_one_of_two_that_share_it(self):
        for dropped in (0, 1):
            calls = [OPEN, OPEN, feed(0, block(3)), feed(1, block(4) + block(3)), drop(dropped)]
            self.assertEqual(last(*calls, has(block(3))), YES, dropped)

    def test_behind_a_drop_of_both(self):
        calls = [OPEN, OPEN, feed(0, block(3)), feed(1, block(4) + block(3))]
        for order in ((0, 1), (1, 0)):
            dropped = [drop(stream) for stream in order]
            self.assertEqual(ask(*calls, *dropped, has(block(3)), has(block(4)))[-2:], [NO, NO])

    def test_behind_a_drop_of_a_stream_that_has_it_twice(self):
        calls = [OPEN, OPEN, feed(0, [5] * 128), feed(1, [6] * 64), drop(0)]
        self.assertEqual(ask(*calls, has([5] * 64), has([6] * 64))[-2:], [NO, YES])

    def test_behind_begin(self):
        self.assertEqual(last(OPEN, feed(0, block(3)), BEGIN, has(block(3))), NO)

    def test_behind_a_refused_feed(self):
        calls = [OPEN, feed(0, block(3)), feed(0, block(4) + [256]), feed(0, blocks(5, 32))]
        self.assertEqual(ask(*calls, has(block(3)), has(block(4)), has(block(5)))[-5:], [[-1], [-3], YES, NO, NO])
        full = [OPEN] * 3 + [feed(0, blocks(0, 32)), feed(1, blocks(32, 31)), feed(2, block(98) + block(99))]
        self.assertEqual(ask(*full, has(block(98)), has(block(99)))[-3:], [[-5], NO, NO])


class Shared(unittest.TestCase):

    def shares(self, first, second, told, back):
        """By pieces of three letters, both open and then both closed: what first shares with second, and back."""
        calls = [THREES, OPEN, OPEN, feed(0, text(first)), feed(1, text(second))]
        self.assertEqual(ask(*calls, shared(0, 1), shared(1, 0))[-2:], [[0, told[0]], [0, back[0]]])
        shut = calls + [close(0), close(1)]
        self.assertEqual(ask(*shut, shared(0, 1), shared(1, 0))[-2:], [[0, told[1]], [0, back[1]]])

    def test_pieces_that_both_have(self):
        self.shares("abcdef", "defghi", (3, 3), (3, 3))
        self.shares("abcdef", "defabc", (6, 6), (6, 6))

    def test_pieces_that_one_has(self):
        self.shares("abcdef", "ghijkl", (0, 0), (0, 0))
        self.shares("abc", "bca", (0, 0), (0, 0))

    def test_twice_in_one_and_once_in_the_other(self):
        self.shares("abcabc", "abc", (6, 6), (3, 3))
        self.shares("abc", "abcabc", (3, 3), (6, 6))
        self.shares("abcdefabcabc", "defabcdef", (12, 12), (9, 9))

    def test_twice_in_both(self):
        self.shares("abcabc", "abcabc", (6, 6), (6, 6))

    def test_closed_streams_last_pieces(self):
        self.shares("abcx", "defx", (0, 1), (0, 1))
        self.shares("abcxy", "xy", (0, 2), (0, 2))
        self.shares("abcx", "abcy", (3, 3), (3, 3))

    def test_an_open_streams_tail_that_is_like_a_piece_of_the_other(self):
        calls = [THREES, OPEN, OPEN, feed(0, text("abcx")), feed(1, text("abcx")), close(1)]
        self.assertEqual(ask(*calls, shared(0, 1), shared(1, 0))[-2:], [[0, 3], [0, 3]])
        self.assertEqual(ask(*calls, close(0), shared(0, 1), shared(1, 0))[-2:], [[0, 4], [0, 4]])

    def test_tails_that_are_alike(self):
        self.shares("xy", "xy", (0, 2), (0, 2))

    def test_a_stream_without_bytes(self):
        self.shares("", "", (0, 0), (0, 0))
        self.shares("abc", "", (0, 0), (0, 0))

    def test_a_stream_with_itself(self):
        for some, in_pieces in (("", 0), ("ab", 0), ("abc", 3), ("abcabcd", 6), ("abcdefgh", 6)):
            calls = [THREES, OPEN, feed(0, text(some))]
            self.assertEqual(last(*calls, shared(0, 0)), [0, in_pieces], some)
            self.assertEqual(last(*calls, close(0), shared(0, 0)), [0, len(some)], some)

    def test_pieces_of_many_lengths(self):
        first = [2] * 10 + [1] + [3] * 20 + [1] + [4] * 30 + [1] + [2] * 10 + [1]
        second = [4] * 30 + [1] + [9] * 5 + [1] + [2] * 10 + [1]
        calls = [ended_by(1), OPEN, OPEN, feed(0, first), feed(1, second)]
        self.assertEqual(ask(*calls, shared(0, 1), shared(1, 0))[-2:], [[0, 53], [0, 42]])

    def test_the_same_number_and_length(self):
        self.assertEqual(last(OPEN, OPEN, feed(0, [1] * 64), feed(1, [2] * 64), shared(0, 1)), NO)
        calls = [table(0, 2, 2, range(256)), OPEN, OPEN, feed(0, [1, 2, 5, 5]), feed(1, [2, 0, 5, 5])]
        self.assertEqual(last(*calls, shared(0, 1)), [0, 2])

    def test_the_two_that_are_named(self):
        calls = [THREES] + [OPEN] * 8 + [feed(2, text("abcdef")), feed(7, text("defxyz")), feed(0, text("abcxyz"))]
        asked = [shared(2, 7), shared(7, 2), shared(2, 0), shared(0, 7), shared(2, 1), shared(1, 2)]
        self.assertEqual(ask(*calls, *asked)[-6:], [[0, 3], [0, 3], [0, 3], [0, 3], NO, NO])

    def test_behind_a_drop_of_a_third(self):
        calls = [THREES, OPEN, OPEN, OPEN] + [feed(stream, text("abcdef")) for stream in range(3)] + [drop(2)]
        self.assertEqual(last(*calls, shared(0, 1)), [0, 6])

    def test_streams_that_go_on_alike(self):
        some = sum([[2 + count] * (20 + count) + [1] for count in range(40)], [])
        # A byte put in before the first piece changes that piece alone.
        calls = [ended_by(1), OPEN, OPEN, feed(0, some), feed(1, [77] + some)]
        behind = len(some) - 21
        self.assertEqual(ask(*calls, shared(0, 1), shared(1, 0))[-2:], [[0, behind], [0, behind]])
        # So does one byte left out, and one that is another.
        for other in (some[1:], [77] + some[1:], [1] + some):
            calls = [ended_by(1), OPEN, OPEN, feed(0, some), feed(1, other)]
            self.assertEqual(last(*calls, shared(0, 1)), [0, len(some) if other[0] == 1 else behind])


class SharedRefused(unittest.TestCase):

    def test_k_is_free(self):
        self.assertEqual(last(OPEN, shared(1, 0)), NO_STREAM)
        self.assertEqual(last(OPEN, OPEN, close(1), drop(0), shared(0, 1)), NO_STREAM)

    def test_l_is_free(self):
        self.assertEqual(last(OPEN, shared(0, 1)), NO_STREAM)
        self.assertEqual(last(OPEN, OPEN, close(0), drop(1), shared(0, 1)), NO_STREAM)

    def test_both_are_free(self):
        self.assertEqual(ask(shared(0, 0), shared(3, 4), shared(7, 7)), [NO_STREAM] * 3)

    def test_above_7(self):
        for stream in (8, 9, 255, 256, 1000000):
            asked = [shared(stream, 0), shared(0, stream), shared(stream, stream)]
            self.assertEqual(ask(*[OPEN] * 8, *asked)[-3:], [NO_STREAM] * 3, stream)

    def test_one_is_free_and_one_above_7(self):
        self.assertEqual(ask(OPEN, shared(1, 8), shared(8, 1))[-2:], [NO_STREAM] * 2)

    def test_the_next_call_is_read_behind_it(self):
        self.assertEqual(ask(shared(3, 3), OPEN, shared(0, 3), size(0), KEPT),
                         [NO_STREAM, [0, 0], NO_STREAM, [0, 0, 0], [0, 0, 0, 0]])


if __name__ == "__main__":
    unittest.main()
