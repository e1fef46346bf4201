"""What the document says would be wrong, and its examples: told by what is taken and refused, and by what is asked."""

import unittest

from helper import (BEGIN, DONE, KEPT, OPEN, TOP_BIT, ask, block, blocks, close, drop, ended_by, feed, has, in_parts,
                    last, numbers_of, pieces, read, shared, size, table, tail, text)

NO_ROOM = [-5]
EIGHT = [OPEN] * 8


class FullTestCase(unittest.TestCase):

    def fills(self, *calls):
        """The last of the calls is answered with 0, and room is full then: stream 7 can't take a first byte."""
        found = ask(*calls, feed(7, [9]))
        self.assertEqual(found[-2:], [DONE, NO_ROOM])


class WrongWouldBeByWhatIsTaken(FullTestCase):

    def test_the_number_going_on_over_a_pieces_end(self):
        # 2 is a piece with the number 2^30: were it to go on, it would be 2^31 at the 0, and end nothing.
        rule = table(1, 1, 256, numbers_of({2: 2 ** 30}))
        self.fills(rule, *EIGHT, feed(0, [2, 0] * 128))

    def test_the_number_going_on_over_a_piece_of_most_bytes(self):
        # The eight bytes end as 2^31 + 2^30: were that to go on, it would be 2^31 at the 0.
        rule = table(1, 1, 8, numbers_of({1: TOP_BIT, 3: TOP_BIT + 2 ** 30}))
        self.fills(rule, *EIGHT, feed(0, ([1] * 7 + [3, 0]) * 128))

    def test_a_piece_of_most_bytes_that_is_not_ended(self):
        self.fills(table(16, 1, 8, [TOP_BIT] * 256), *EIGHT, feed(0, [1] * 2048))

    def test_least_looked_at_one_byte_early(self):
        self.fills(table(0, 8, 256), *EIGHT, feed(0, [1] * 2048))
        # 2, 0 has the number 2^30, below the limit, but too few bytes; 2, 0, 0 has 2^31.
        rule = table(1, 3, 4, numbers_of({2: 2 ** 29}))
        self.fills(rule, *EIGHT, feed(0, [2, 0, 0, 0] * 256))

    def test_a_parts_end_that_ends_a_piece(self):
        # 40 parts of 9 bytes are 36 pieces of 10; 220 more fill the places.
        parts = in_parts(0, [1] * 360, 9)
        self.fills(table(0, 10, 10), *EIGHT, *parts, feed(1, [1] * 2040), feed(2, [1] * 160))

    def test_a_parts_end_of_least_bytes_or_more_that_ends_a_piece(self):
        # Only most ends a piece here: 40 parts of 6 bytes are 30 pieces of 8.
        parts = in_parts(0, [1] * 240, 6)
        self.fills(table(1, 2, 8, [TOP_BIT] * 256), *EIGHT, *parts, feed(1, [1] * 1808))

    def test_dropping_one_of_two_taking_the_shared_pieces_away(self):
        for dropped in (0, 1):
            calls = [*EIGHT, feed(0, blocks(0, 32)), feed(1, blocks(0, 32)), drop(dropped), feed(2, blocks(32, 32))]
            self.fills(*calls)
            # The pieces that are still kept come for nothing.
            self.fills(*calls, feed(3, blocks(0, 32)))
            self.assertEqual(last(*calls, size(1 - dropped)), [0, 2048, 0])

    def test_a_refused_feed_leaving_its_first_part(self):
        refused = [*EIGHT, feed(0, blocks(0, 32)), feed(1, blocks(32, 31)), feed(2, blocks(100, 2)), size(2)]
        self.assertEqual(ask(*refused)[-2:], [NO_ROOM, [0, 0, 0]])
        # All 64 bytes that were left are left still.
        self.fills(*refused, feed(3, block(200)))

    def test_an_open_streams_tail_counted_as_a_piece_beside(self):
        self.fills(*EIGHT, feed(0, blocks(0, 32)), feed(1, blocks(32, 31) + [1] * 32), feed(2, [2] * 32))
        self.fills(table(0, 8, 8), *EIGHT, feed(0, [1] * 2033), feed(1, [1] * 8))

    def test_an_open_streams_tail_taken_for_a_piece_that_is_there(self):
        # Of two tails alike one is closed: the piece and the other tail count both.
        self.fills(*EIGHT, feed(0, blocks(0, 32)), feed(1, blocks(32, 31)), feed(2, [1] * 32), feed(3, [1] * 32),
                   close(2))

    def test_closing_making_an_empty_piece(self):
        closed = [close(stream) for stream in range(5)]
        self.fills(table(0, 8, 8), *EIGHT, feed(0, [1] * 2040), *closed, feed(5, [1] * 8))

    def test_closing_leaving_the_tail_beside_its_piece(self):
        self.fills(*EIGHT, feed(0, blocks(0, 32)), feed(1, blocks(32, 31) + [1] * 32), close(1), feed(2, [2] * 32))
        self.fills(table(0, 8, 8), *EIGHT, feed(0, [1] * 2033), close(0), feed(1, [1] * 8))

    def test_two_pieces_with_the_same_number_and_length_taken_for_the_same(self):
        # In the table at first all numbers are 0, and so is each piece's number.
        self.fills(*EIGHT, feed(0, blocks(0, 32)), feed(1, blocks(32, 32)))
        # Twice the byte before the last and the last one are 200 in each of these.
        rows = [[7] * 62 + [byte, 200 - 2 * byte] for byte in range(64)]
        halves = [sum(rows[:32], []), sum(rows[32:], [])]
        self.fills(table(0, 64, 64, range(256)), *EIGHT, feed(0, halves[0]), feed(1, halves[1]))

    def test_the_same_bytes_in_another_order_taken_for_the_same(self):
        first = sum([[byte] + [1] * 63 for byte in range(32)], [])
        second = sum([[1] * 63 + [byte] for byte in range(32)], [])
        # Only the piece of 64 bytes 1 is in both, so there are 63 different ones.
        self.fills(*EIGHT, feed(0, first), feed(1, second), feed(2, [9] * 63 + [8]))

    def test_a_piece_that_begins_like_another_taken_for_it(self):
        rows = [[7] * 63 + [byte] for byte in range(64)]
        self.fills(*EIGHT, feed(0, sum(rows[:32], [])), feed(1, sum(rows[32:], [])))

    def test_room_counted_for_pieces_before_they_are_found_to_be_there(self):
        full = [*EIGHT, feed(0, blocks(0, 32)), feed(1, blocks(32, 32))]
        self.fills(*full, feed(2, blocks(16, 32)))
        # Pieces that are alike within the one feed are found too.
        self.fills(*EIGHT, feed(0, blocks(0, 32)), feed(1, blocks(32, 31)), feed(2, [5] * 2048))


class WrongWouldBeByWhatIsAsked(unittest.TestCase):

    def cut_as(self, calls, lengths, left):
        self.assertEqual(ask(*calls, pieces(0), tail(0))[-2:], [[0] + lengths, [0] + left])

    def test_the_number_going_on_over_a_pieces_end(self):
        rule = table(1, 1, 256, numbers_of({2: 2 ** 30}))
        self.cut_as([rule, OPEN, feed(0, [2, 0, 0, 2, 0])], [1, 1, 1, 1, 1], [])
        # Nor over the end of a part that is a piece's end too.
        self.cut_as([rule, OPEN, feed(0, [2]), feed(0, [0])], [1, 1], [])

    def test_the_number_going_on_over_a_piece_of_most_bytes(self):
        rule = table(1, 1, 8, numbers_of({1: TOP_BIT, 3: TOP_BIT + 2 ** 30}))
        self.cut_as([rule, OPEN, feed(0, [1] * 7 + [3, 0, 0])], [8, 1, 1], [])

    def test_a_piece_of_most_bytes_that_is_not_ended(self):
        self.cut_as([table(16, 1, 8, [TOP_BIT] * 256), OPEN, feed(0, [1] * 20)], [8, 8], [1] * 4)
        self.cut_as([table(16, 8, 8, [TOP_BIT] * 256), OPEN, feed(0, [1] * 8)], [8], [])

    def test_least_looked_at_one_byte_early(self):
        self.cut_as([table(0, 8, 256), OPEN, feed(0, [1] * 23)], [8, 8], [1] * 7)
        # 2, 0 has the number 2^30, below the limit, but too few bytes; 2, 0, 0 has 2^31.
        rule = table(1, 3, 256, numbers_of({2: 2 ** 29}))
        self.cut_as([rule, OPEN, feed(0, [2, 0, 0, 0, 2])], [4], [2])

    def test_a_parts_end_that_ends_a_piece(self):
        for length in (1, 7, 9, 10, 11):
            self.cut_as([table(0, 10, 10), OPEN, *in_parts(0, [1] * 54, length)], [10] * 5, [1] * 4)
            self.cut_as([table(1, 2, 8, [TOP_BIT] * 256), OPEN, *in_parts(0, [1] * 54, length)], [8] * 6, [1] * 6)

    def test_dropping_one_of_two_taking_the_shared_pieces_away(self):
        some = blocks(0, 3) + [1, 2]
        for dropped in (0, 1):
            calls = [OPEN, OPEN, feed(0, some), feed(1, some), drop(dropped)]
            left = 1 - dropped
            asked = [read(left), pieces(left), tail(left), has(block(1)), shared(left, left), KEPT]
            self.assertEqual(ask(*calls, *asked)[-6:],
                             [[0] + some, [0, 64, 64, 64], [0, 1, 2], [0, 1], [0, 192], [0, 194, 4, 3]])

    def test_a_refused_feed_leaving_its_first_part(self):
        base = [*EIGHT, feed(0, blocks(0, 32)), feed(1, blocks(32, 31)), feed(2, [1] * 5)]
        asked = [size(2), read(2), pieces(2), tail(2), has(block(0)), has([1] * 5 + block(0)[:59]), KEPT]
        told = ask(*base, *asked)[-7:]
        for refused, number in ((block(0) + block(0), -5), (block(0) + [256], -1), (blocks(0, 31) + [0] * 60, -3)):
            self.assertEqual(ask(*base, feed(2, refused), *asked)[-8:], [[number]] + told)

    def test_an_open_streams_tail_counted_as_a_piece_beside(self):
        calls = [OPEN, OPEN, feed(0, [1] * 64 + [2]), feed(1, [2])]
        asked = [pieces(0), has([2]), shared(0, 1), shared(1, 0), shared(1, 1), KEPT]
        self.assertEqual(ask(*calls, *asked)[-6:], [[0, 64], [0, 0], [0, 0], [0, 0], [0, 0], [0, 66, 3, 1]])

    def test_closing_making_an_empty_piece(self):
        self.cut_as([OPEN, close(0)], [], [])
        self.cut_as([OPEN, feed(0, [1] * 128), close(0)], [64, 64], [])
        self.assertEqual(ask(OPEN, feed(0, [1] * 128), close(0), has([]), KEPT)[-2:], [[0, 0], [0, 64, 2, 1]])

    def test_closing_leaving_the_tail_beside_its_piece(self):
        self.cut_as([OPEN, feed(0, [1] * 70), close(0)], [64, 6], [])
        self.assertEqual(ask(OPEN, feed(0, [1] * 70), close(0), read(0), KEPT)[-2:],
                         [[0] + [1] * 70, [0, 70, 2, 2]])

    def test_two_pieces_with_the_same_number_and_length_taken_for_the_same(self):
        # Twice 1 and 2 is as much as twice 2 and 0; in the table of noughts all are.
        for rule in (table(0, 2, 2, range(256)), table(0, 2, 2)):
            calls = [rule, OPEN, OPEN, feed(0, [1, 2, 3, 3]), feed(1, [2, 0, 3, 3])]
            asked = [read(0), read(1), shared(0, 1), has([0, 4]), has([1, 2]), has([2, 0]), KEPT]
            self.assertEqual(ask(*calls, *asked)[-7:], [[0, 1, 2, 3, 3], [0, 2, 0, 3, 3], [0, 2], [0, 0], [0, 1],
                                                        [0, 1], [0, 6, 4, 3]])

    def test_room_counted_for_pieces_before_they_are_found_to_be_there(self):
        full = [*EIGHT, feed(0, blocks(0, 32)), feed(1, blocks(32, 32))]
        self.assertEqual(ask(*full, feed(2, blocks(16, 32)), KEPT, read(2))[-3:],
                         [DONE, [0, 4096, 96, 64], [0] + blocks(16, 32)])


class AlikeFromWhereAPieceEnds(FullTestCase):

    def test_streams_that_go_on_alike_are_cut_alike(self):
        # A byte 1 ends each piece, so the two differ up to the first 1 only.
        rule = ended_by(1)
        common = sum([[2] * (20 + count) + [1] for count in range(40)], [])
        first = [3] * 30 + [1] + common
        second = [4] * 45 + [1] + common
        taken = 31 + 46 + len(common)
        left = 4096 - taken
        # Pieces of 256 bytes 5, then 6 and so on, and a tail fill up what is left to the byte.
        rest = sum([[5 + count] * 256 for count in range(11)], [])[:left]
        self.assertLess(left, 11 * 256)
        self.fills(rule, *EIGHT, feed(0, first), feed(1, second), feed(2, rest[:1536]), feed(3, rest[1536:]))


class Examples(FullTestCase):

    def test_a_stream_of_130_bytes(self):
        calls = [*EIGHT, feed(0, blocks(0, 2) + [1, 2])]
        self.assertEqual(last(*calls, size(0)), [0, 130, 0])
        self.assertEqual(last(*calls, close(0), size(0)), [0, 130, 1])
        # 1,918 bytes are left beside it and another of 2,048.
        self.fills(*calls, feed(1, blocks(100, 32)), feed(2, blocks(200, 29) + [9] * 62))

    def test_the_third_piece_of_2(self):
        calls = [*EIGHT, feed(0, blocks(0, 2) + [1, 2]), close(0), feed(1, blocks(100, 32))]
        calls += [feed(2, blocks(200, 29) + [9] * 60), feed(3, [1, 2])]
        self.fills(*calls)
        # Closed, the 1, 2 of stream 3 is the same piece, so two bytes are given back.
        self.fills(*calls, close(3), feed(4, [1, 2]))

    def test_each_three_bytes_are_a_piece(self):
        abcabc = [97, 98, 99, 97, 98, 99]
        abcx = [97, 98, 99, 120]
        # 4 places are taken; 252 pieces more fill them.
        self.fills(table(0, 3, 8), *EIGHT, feed(0, abcabc), feed(1, abcx), feed(2, abcabc * 126))
        self.fills(table(0, 3, 8), *EIGHT, feed(0, abcabc), BEGIN, table(0, 3, 8), *EIGHT, feed(2, abcabc * 128))

    def test_the_first_number_by_number(self):
        some = [(3 * place) % 256 for place in range(130)]
        found = ask(OPEN, feed(0, some), pieces(0), tail(0), close(0), pieces(0), tail(0), read(0))
        self.assertEqual(found, [[0, 0], DONE, [0, 64, 64], [0] + some[128:], DONE, [0, 64, 64, 2], DONE, [0] + some])

    def test_the_second_number_by_number(self):
        calls = [table(0, 3, 8), OPEN, OPEN, feed(0, text("abcabc")), feed(1, text("abcx"))]
        asked = [pieces(0), tail(0), pieces(1), tail(1), shared(1, 0), shared(0, 1), KEPT]
        # The one piece abc counts for "abcabc" twice, and for "abcx", which shares 3 bytes, once.
        self.assertEqual(ask(*calls, *asked)[-7:],
                         [[0, 3, 3], DONE, [0, 3], [0, 120], [0, 3], [0, 6], [0, 4, 4, 1]])


if __name__ == "__main__":
    unittest.main()
