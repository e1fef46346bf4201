"""feed: its answer, its refusals and their order, and the room that it needs."""

import unittest

from helper import (DONE, OPEN, TOP_BIT, ask, block, blocks, close, drop, feed, in_parts, last, numbers_of, size,
                    table)

NOT_OPEN = [-1]
TOO_LONG = [-3]
NO_ROOM = [-5]

# By the first rule, 64 different pieces of 64 in two streams: 4,096 bytes of room, 64 places.
FULL_ROOM = [OPEN, OPEN, OPEN, OPEN, feed(0, blocks(0, 32)), feed(1, blocks(32, 32))]
# One piece of 8 bytes, 256 times over.
FULL_PLACES = [table(0, 8, 8), OPEN, OPEN, feed(0, [5] * 2048)]


class Taken(unittest.TestCase):

    def test_answers_0(self):
        self.assertEqual(ask(OPEN, feed(0, [1, 2, 3])), [[0, 0], DONE])

    def test_no_bytes(self):
        self.assertEqual(ask(OPEN, feed(0, []), size(0))[-2:], [DONE, [0, 0, 0]])
        self.assertEqual(ask(OPEN, feed(0, [1] * 70), feed(0, []), size(0))[-2:], [DONE, [0, 70, 0]])

    def test_no_bytes_where_all_is_full(self):
        self.assertEqual(last(*FULL_ROOM, feed(2, [])), DONE)
        self.assertEqual(last(*FULL_ROOM, feed(0, [])), DONE)
        self.assertEqual(last(*FULL_PLACES, feed(1, [])), DONE)
        self.assertEqual(last(*FULL_PLACES, feed(0, [])), DONE)

    def test_bytes_0_and_255(self):
        self.assertEqual(ask(OPEN, feed(0, [0, 255, 255, 0]), size(0))[-2:], [DONE, [0, 4, 0]])
        self.assertEqual(last(OPEN, feed(0, range(256)), size(0)), [0, 256, 0])

    def test_the_named_stream_alone(self):
        self.assertEqual(ask(OPEN, OPEN, feed(1, [1] * 9), size(0), size(1))[-2:], [[0, 0, 0], [0, 9, 0]])


class NotOpenOrNoBytes(unittest.TestCase):

    def test_free(self):
        self.assertEqual(ask(feed(0, [1])), [NOT_OPEN])
        self.assertEqual(ask(feed(0, [])), [NOT_OPEN])
        self.assertEqual(last(OPEN, feed(1, [1])), NOT_OPEN)
        self.assertEqual(last(OPEN, drop(0), feed(0, [1])), NOT_OPEN)

    def test_above_7(self):
        for stream in (8, 9, 255, 1000000):
            self.assertEqual(last(*[OPEN] * 8, feed(stream, [1])), NOT_OPEN, stream)
            self.assertEqual(last(*[OPEN] * 8, feed(stream, [])), NOT_OPEN, stream)

    def test_closed(self):
        self.assertEqual(ask(OPEN, feed(0, [1]), close(0), feed(0, [2]), size(0))[-2:], [NOT_OPEN, [0, 1, 1]])
        self.assertEqual(last(OPEN, close(0), feed(0, [])), NOT_OPEN)

    def test_a_number_that_is_no_byte(self):
        for wrong in (256, 257, 65536, 4294967295):
            for place in (0, 5, 10):
                some = [1] * 10
                some.insert(place, wrong)
                found = ask(OPEN, feed(0, [7]), feed(0, some), size(0))
                self.assertEqual(found[-2:], [NOT_OPEN, [0, 1, 0]], (wrong, place))

    def test_nothing_of_it_is_taken_before_the_wrong_number(self):
        # Were its first 8 bytes taken as a piece, a 257th place would be needed.
        calls = [table(0, 8, 8), OPEN, OPEN, feed(0, [5] * 2040), feed(1, [5] * 8 + [256])]
        self.assertEqual(ask(*calls, feed(1, [5] * 8), feed(1, [5]))[-3:], [NOT_OPEN, DONE, NO_ROOM])


class TooLong(unittest.TestCase):

    def test_2048_just_and_one_more(self):
        self.assertEqual(ask(OPEN, feed(0, [1] * 2048), size(0))[-2:], [DONE, [0, 2048, 0]])
        self.assertEqual(ask(OPEN, feed(0, [1] * 2049), size(0))[-2:], [TOO_LONG, [0, 0, 0]])

    def test_2048_in_parts_and_one_more(self):
        found = ask(OPEN, feed(0, [1] * 2000), feed(0, [1] * 49), feed(0, [1] * 48), feed(0, [1]), size(0))
        self.assertEqual(found[-4:], [TOO_LONG, DONE, TOO_LONG, [0, 2048, 0]])

    def test_no_bytes_at_2048(self):
        self.assertEqual(ask(OPEN, feed(0, [1] * 2048), feed(0, []), size(0))[-2:], [DONE, [0, 2048, 0]])

    def test_much_too_long(self):
        self.assertEqual(ask(OPEN, feed(0, [1] * 30900), size(0))[-2:], [TOO_LONG, [0, 0, 0]])

    def test_each_stream_by_itself(self):
        calls = [OPEN] * 8 + [feed(stream, [1] * 2048) for stream in range(8)]
        self.assertEqual(ask(*calls)[-8:], [DONE] * 8)


class OrderOfRefusals(unittest.TestCase):

    def test_not_open_before_too_long(self):
        self.assertEqual(ask(feed(0, [1] * 2049)), [NOT_OPEN])
        self.assertEqual(last(OPEN, close(0), feed(0, [1] * 2049)), NOT_OPEN)
        self.assertEqual(last(OPEN, feed(0, [1] * 2048), close(0), feed(0, [1])), NOT_OPEN)

    def test_no_byte_before_too_long(self):
        self.assertEqual(last(OPEN, feed(0, [1] * 2049 + [256])), NOT_OPEN)
        self.assertEqual(last(OPEN, feed(0, [256] + [1] * 2049)), NOT_OPEN)

    def test_not_open_before_no_room(self):
        self.assertEqual(last(*FULL_ROOM, close(2), feed(2, [1])), NOT_OPEN)
        self.assertEqual(last(*FULL_ROOM, feed(7, [1])), NOT_OPEN)
        self.assertEqual(last(*FULL_ROOM, feed(8, [1])), NOT_OPEN)

    def test_no_byte_before_no_room(self):
        self.assertEqual(last(*FULL_ROOM, feed(2, [1, 256])), NOT_OPEN)

    def test_too_long_before_no_room(self):
        self.assertEqual(last(*FULL_ROOM, feed(2, blocks(100, 32) + [1])), TOO_LONG)
        self.assertEqual(last(*FULL_ROOM, feed(0, [1])), TOO_LONG)
        self.assertEqual(last(table(0, 1, 1), OPEN, feed(0, [1] * 2049)), TOO_LONG)
        self.assertEqual(last(table(0, 1, 1), OPEN, feed(0, [1] * 2048)), NO_ROOM)


class RoomInBytes(unittest.TestCase):

    def test_4096_just_and_one_more(self):
        self.assertEqual(last(*FULL_ROOM), DONE)
        self.assertEqual(last(*FULL_ROOM, feed(2, [1])), NO_ROOM)
        calls = FULL_ROOM[:-1] + [feed(1, blocks(32, 31)), feed(2, [1] * 63)]
        self.assertEqual(ask(*calls, feed(3, [2]), feed(3, [2]))[-3:], [DONE, DONE, NO_ROOM])

    def test_in_one_feed_from_far_below(self):
        base = [OPEN, OPEN, OPEN, feed(0, blocks(0, 32))]
        tail_of_1 = base + [feed(2, [1])]
        self.assertEqual(last(*tail_of_1, feed(1, blocks(32, 31) + [9] * 63)), DONE)
        self.assertEqual(last(*tail_of_1, feed(1, blocks(32, 32))), NO_ROOM)

    def test_a_piece_that_is_there_is_counted_once(self):
        self.assertEqual(last(*FULL_ROOM, feed(2, blocks(0, 32))), DONE)
        self.assertEqual(last(*FULL_ROOM, feed(2, blocks(20, 24))), DONE)
        self.assertEqual(last(*FULL_ROOM, feed(2, blocks(20, 24) + block(99))), NO_ROOM)

    def test_a_piece_that_is_twice_in_one_stream_is_counted_once(self):
        calls = [OPEN] * 8 + [feed(stream, [5] * 2048) for stream in range(4)]
        # 64 bytes by now, in 128 places.
        calls += [feed(4, blocks(0, 32)), feed(5, blocks(32, 31))]
        self.assertEqual(ask(*calls)[-2:], [DONE, DONE])
        self.assertEqual(last(*calls, feed(6, [1])), NO_ROOM)
        self.assertEqual(last(*calls, feed(6, [5] * 1024)), DONE)

    def test_each_tail_is_counted(self):
        # 4,096 - 64 * 63 = 64: by the tails of two streams, alike, all but 2 of that is taken.
        calls = [OPEN] * 5 + [feed(0, blocks(0, 32)), feed(1, blocks(32, 31)), feed(2, [1] * 31), feed(3, [1] * 31)]
        self.assertEqual(ask(*calls, feed(4, [1] * 2), feed(4, [1]))[-4:], [DONE, DONE, DONE, NO_ROOM])

    def test_a_tail_like_a_piece_is_counted_beside_it(self):
        closed_row = [OPEN] * 5 + [feed(2, [1] * 32), close(2), feed(0, blocks(0, 32)), feed(1, blocks(32, 31))]
        # 32 bytes are left, and the tail that is like the closed stream's piece takes them all.
        self.assertEqual(ask(*closed_row, feed(3, [1] * 32), feed(4, [1]))[-2:], [DONE, NO_ROOM])
        self.assertEqual(last(*closed_row, feed(3, [1] * 33)), NO_ROOM)

    def test_a_tail_that_is_part_of_a_piece_is_counted(self):
        self.assertEqual(last(*FULL_ROOM, feed(2, block(3)[:63])), NO_ROOM)

    def test_a_tail_gives_its_room_back_where_it_becomes_a_piece_that_is_there(self):
        calls = [OPEN] * 4 + [feed(0, blocks(0, 32)), feed(1, blocks(32, 31)), feed(2, block(3)[:63]), feed(3, [1])]
        self.assertEqual(last(*calls), DONE)
        self.assertEqual(last(*calls, feed(3, [1])), NO_ROOM)
        self.assertEqual(last(*calls, feed(2, [8])), NO_ROOM)
        finished = calls + [feed(2, block(3)[63:])]
        self.assertEqual(last(*finished), DONE)
        self.assertEqual(ask(*finished, feed(3, [1] * 62), feed(2, [1]), feed(2, [1]))[-3:], [DONE, DONE, NO_ROOM])

    def test_behind_the_call_counts_not_within_it(self):
        # Between its two pieces this feed would have needed more than 4,096.
        calls = [OPEN] * 4 + [feed(0, blocks(0, 32)), feed(1, blocks(32, 31)), feed(3, [1] * 63), feed(2, [])]
        self.assertEqual(last(*calls, feed(2, block(3) + block(4))), DONE)
        self.assertEqual(last(*calls, feed(2, block(3) + block(4)[:2])), NO_ROOM)

    def test_closing_gives_back_a_tail_that_is_a_piece(self):
        calls = [OPEN] * 5 + [feed(2, [1] * 32), close(2), feed(0, blocks(0, 32)), feed(1, blocks(32, 31))]
        calls += [feed(3, [1] * 32)]
        self.assertEqual(last(*calls, feed(4, [1])), NO_ROOM)
        self.assertEqual(ask(*calls, close(3), feed(4, [1] * 32), feed(4, [1]))[-3:], [DONE, DONE, NO_ROOM])

    def test_closing_gives_back_nothing_else(self):
        calls = [OPEN] * 5 + [feed(0, blocks(0, 32)), feed(1, blocks(32, 31)), feed(2, [1] * 32), feed(3, [1] * 32)]
        # The tail of 3 is still counted beside the piece that closing makes of 2's.
        self.assertEqual(ask(*calls, close(2), feed(4, [1]))[-2:], [DONE, NO_ROOM])
        self.assertEqual(ask(*calls, close(2), close(3), feed(4, [1] * 32), feed(4, [1]))[-2:], [DONE, NO_ROOM])

    def test_dropping_gives_back_what_no_other_has(self):
        self.assertEqual(ask(*FULL_ROOM, drop(1), feed(2, blocks(100, 32)), feed(3, [1]))[-3:],
                         [DONE, DONE, NO_ROOM])
        self.assertEqual(ask(*FULL_ROOM, feed(2, blocks(0, 16)), drop(0), feed(3, blocks(100, 16)), feed(3, [1]))[-3:],
                         [DONE, DONE, NO_ROOM])

    def test_dropping_gives_back_a_tail(self):
        calls = [OPEN] * 4 + [feed(0, blocks(0, 32)), feed(1, blocks(32, 31)), feed(2, [1] * 63)]
        self.assertEqual(last(*calls, feed(3, [2, 2])), NO_ROOM)
        self.assertEqual(last(*calls, drop(2), feed(3, [2] * 63)), DONE)


class RoomInPlaces(unittest.TestCase):

    def test_256_just_and_one_more(self):
        self.assertEqual(ask(*FULL_PLACES, feed(1, [5]))[-2:], [DONE, NO_ROOM])
        rule = table(0, 1, 1)
        self.assertEqual(last(rule, OPEN, feed(0, [5] * 256)), DONE)
        self.assertEqual(last(rule, OPEN, feed(0, [5] * 257)), NO_ROOM)

    def test_each_streams_pieces(self):
        calls = [table(0, 1, 1)] + [OPEN] * 8 + [feed(stream, [5] * 32) for stream in range(8)]
        self.assertEqual(ask(*calls)[-8:], [DONE] * 8)
        for stream in range(8):
            self.assertEqual(last(*calls, feed(stream, [5])), NO_ROOM, stream)

    def test_a_tail_takes_one(self):
        calls = [table(0, 8, 8)] + [OPEN] * 3 + [feed(0, [5] * 2040)]
        self.assertEqual(ask(*calls, feed(0, [5]), feed(0, [5] * 6), feed(1, [5]))[-3:], [DONE, DONE, NO_ROOM])
        self.assertEqual(ask(*calls, feed(1, [5]), feed(1, [5] * 6), feed(0, [5]))[-3:], [DONE, DONE, NO_ROOM])

    def test_an_empty_tail_takes_none(self):
        calls = [table(0, 8, 8)] + [OPEN] * 8 + [feed(0, [5] * 2040), feed(1, [5] * 8)]
        self.assertEqual(last(*calls), DONE)

    def test_a_tail_that_becomes_a_piece_takes_no_other(self):
        calls = [table(0, 8, 8)] + [OPEN] * 2 + [feed(0, [5] * 2040), feed(1, [5] * 7)]
        self.assertEqual(ask(*calls, feed(1, [5] * 2), feed(1, [5]), feed(1, [5]))[-3:], [NO_ROOM, DONE, NO_ROOM])

    def test_closed_streams_pieces_count(self):
        calls = [table(0, 8, 8), OPEN, OPEN, feed(0, [5] * 2033), close(0)]
        self.assertEqual(ask(*calls, feed(1, [5]), feed(1, [5] * 8))[-2:], [DONE, NO_ROOM])

    def test_dropping_gives_them_back(self):
        self.assertEqual(ask(*FULL_PLACES, drop(0), feed(1, [5] * 2048))[-2:], [DONE, DONE])
        calls = [table(0, 8, 8), OPEN, OPEN, OPEN, feed(0, [5] * 1024), feed(1, [5] * 1024), drop(0)]
        self.assertEqual(ask(*calls, feed(2, [5] * 1024), feed(2, [5]))[-2:], [DONE, NO_ROOM])


class RefusedTakesNothing(unittest.TestCase):

    def test_size_stays(self):
        self.assertEqual(ask(*FULL_ROOM, feed(2, block(3) + block(99)), size(2))[-2:], [NO_ROOM, [0, 0, 0]])
        self.assertEqual(ask(*FULL_PLACES, feed(1, [5] * 9), size(1), size(0))[-3:],
                         [NO_ROOM, [0, 0, 0], [0, 2048, 0]])

    def test_room_stays(self):
        base = [OPEN] * 4 + [feed(0, blocks(0, 32)), feed(1, blocks(32, 31)), feed(2, [1] * 3)]
        refused = base + [feed(3, blocks(200, 2)), feed(2, blocks(300, 4))]
        self.assertEqual(ask(*refused, feed(3, [1] * 61), feed(3, [1]))[-4:], [NO_ROOM, NO_ROOM, DONE, NO_ROOM])

    def test_places_stay(self):
        calls = [table(0, 8, 8), OPEN, OPEN, feed(0, [5] * 2024), feed(1, [5] * 40), size(1)]
        self.assertEqual(ask(*calls, feed(1, [5] * 24), feed(1, [5]))[-4:], [NO_ROOM, [0, 0, 0], DONE, NO_ROOM])

    def test_the_tail_stays_as_it_was(self):
        # The tail 1, 1, 1 and five bytes more are the piece that is there, not with what was refused between.
        calls = [table(0, 8, 8), OPEN, OPEN, feed(0, [1] * 2032), feed(1, [1] * 3), feed(1, [2] * 21)]
        self.assertEqual(ask(*calls, size(1), feed(1, [1] * 5), size(1))[-4:], [NO_ROOM, [0, 3, 0], DONE, [0, 8, 0]])

    def test_again_with_less(self):
        self.assertEqual(ask(*FULL_ROOM, feed(2, block(1) + [0]), feed(2, block(1)), size(2))[-3:],
                         [NO_ROOM, DONE, [0, 64, 0]])


class PartsDoNotMatter(unittest.TestCase):

    def rules(self):
        mixed = [(byte * 2654435761) % 2 ** 32 for byte in range(256)]
        return (table(0, 64, 64), table(0, 8, 8), table(3, 2, 20, mixed), table(5, 20, 200, mixed))

    def room_left(self, *calls):
        """The most bytes, all different rows of 16, that a new stream still takes."""
        for count in range(2048, -1, -16):
            if last(*calls, OPEN, feed(1, blocks(0, count // 16, 16))) == DONE:
                return count
        return -1

    def test_one_part_and_many(self):
        some = [(place * place // 7) % 251 for place in range(1200)]
        for rule in self.rules():
            whole = [rule, OPEN, feed(0, some)]
            for length in (25, 64, 100, 599, 1199):
                parts = [rule, OPEN] + in_parts(0, some, length)
                self.assertEqual(last(*parts, size(0)), last(*whole, size(0)))
                self.assertEqual(self.room_left(*parts), self.room_left(*whole), length)

    def test_byte_by_byte(self):
        rule = table(0, 3, 3)
        # 42 bytes are 14 pieces; 242 places are left to the other stream.
        parts = [rule, OPEN, OPEN] + in_parts(0, [5] * 42, 1)
        self.assertEqual(ask(*parts, feed(1, [5] * 726), feed(1, [5]))[-2:], [DONE, NO_ROOM])

    def test_the_number_goes_on_over_a_parts_end(self):
        rule = table(1, 1, 256, numbers_of({1: TOP_BIT}))
        # 1, 0 is a piece however it comes; were the 0 a part's first piece, the 1 would be another.
        parts = [rule, OPEN, OPEN] + [feed(0, [1]), feed(0, [0])] * 5
        self.assertEqual(ask(*parts, feed(1, [0] * 251), feed(1, [0]))[-2:], [DONE, NO_ROOM])


if __name__ == "__main__":
    unittest.main()
