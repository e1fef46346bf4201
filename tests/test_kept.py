"""kept: the bytes of room and the places that are taken, and how many different pieces there are."""

import unittest

from helper import (BEGIN, DONE, KEPT, OPEN, TOP_BIT, ask, block, blocks, close, drop, ended_by, feed, in_parts, last,
                    table, text)

NO_ROOM = [-5]
NOTHING = [0, 0, 0, 0]
THREES = table(0, 3, 8)


class Kept(unittest.TestCase):

    def keeps(self, calls, room, places, different):
        self.assertEqual(last(*calls, KEPT), [0, room, places, different])


class Nothing(Kept):

    def test_at_first(self):
        self.assertEqual(ask(KEPT), [NOTHING])

    def test_streams_without_bytes(self):
        self.keeps([OPEN] * 8, 0, 0, 0)
        self.keeps([OPEN, OPEN, close(0), feed(1, [])], 0, 0, 0)
        self.keeps([OPEN] * 8 + [close(stream) for stream in range(8)], 0, 0, 0)

    def test_a_rule_alone(self):
        self.keeps([THREES], 0, 0, 0)

    def test_all_dropped(self):
        self.keeps([OPEN, OPEN, feed(0, [1] * 70), feed(1, [1] * 70), close(1), drop(0), drop(1)], 0, 0, 0)

    def test_behind_begin(self):
        self.keeps([OPEN, OPEN, feed(0, [1] * 70), feed(1, [1] * 70), close(1), BEGIN], 0, 0, 0)


class PiecesAndTails(Kept):

    def test_a_tail_alone(self):
        self.keeps([OPEN, feed(0, [1])], 1, 1, 0)
        self.keeps([OPEN, feed(0, [1] * 63)], 63, 1, 0)

    def test_a_piece_alone(self):
        self.keeps([OPEN, feed(0, [1] * 64)], 64, 1, 1)

    def test_pieces_and_a_tail(self):
        self.keeps([OPEN, feed(0, blocks(0, 3) + [1, 2])], 194, 4, 3)

    def test_the_same_piece_twice_in_one_stream(self):
        self.keeps([OPEN, feed(0, [5] * 128)], 64, 2, 1)
        self.keeps([OPEN, feed(0, [5] * 128 + [6] * 64 + [5] * 64)], 128, 4, 2)
        self.keeps([OPEN, feed(0, [5] * 2048)], 64, 32, 1)

    def test_the_same_piece_in_two_streams(self):
        calls = [OPEN, OPEN, feed(0, block(3) + block(4)), feed(1, block(4) + block(5))]
        self.keeps(calls, 192, 4, 3)

    def test_the_same_piece_in_all_streams(self):
        self.keeps([OPEN] * 8 + [feed(stream, [5] * 64) for stream in range(8)], 64, 8, 1)

    def test_tails_that_are_alike(self):
        self.keeps([OPEN] * 8 + [feed(stream, [5] * 10) for stream in range(8)], 80, 8, 0)

    def test_a_tail_like_a_piece_of_another_stream(self):
        calls = [OPEN, OPEN, feed(0, [1, 2]), close(0), feed(1, [1, 2])]
        self.keeps(calls, 4, 2, 1)
        self.keeps(calls + [close(1)], 2, 2, 1)

    def test_a_tail_like_a_part_of_a_piece(self):
        self.keeps([OPEN, feed(0, [5] * 70)], 70, 2, 1)

    def test_different_pieces_with_the_same_number_and_length(self):
        # In the table at first each row's number is 0.
        self.keeps([OPEN, feed(0, [1] * 64 + [2] * 64)], 128, 2, 2)
        self.keeps([OPEN, OPEN, feed(0, [1] * 64), feed(1, [1] * 63 + [2])], 128, 2, 2)
        # Twice 1 and 2 is as much as twice 2 and 0.
        self.keeps([table(0, 2, 2, range(256)), OPEN, feed(0, [1, 2, 2, 0])], 4, 2, 2)

    def test_the_same_bytes_in_another_order(self):
        self.keeps([THREES, OPEN, feed(0, text("abcbcacab"))], 9, 3, 3)

    def test_pieces_of_which_one_begins_like_the_other(self):
        calls = [ended_by(1), OPEN, OPEN, feed(0, [1, 2, 1]), feed(1, [2, 2]), close(1)]
        self.keeps(calls, 5, 3, 3)

    def test_in_parts(self):
        some = blocks(0, 5) + [9] * 30
        for length in (10, 63, 64, 65, 349):
            self.keeps([OPEN] + in_parts(0, some, length), 350, 6, 5)

    def test_all_places(self):
        self.keeps([table(0, 1, 1), OPEN, feed(0, [5] * 256)], 1, 256, 1)
        self.keeps([table(0, 1, 1), OPEN, feed(0, range(256))], 256, 256, 256)

    def test_all_room(self):
        self.keeps([OPEN, OPEN, feed(0, blocks(0, 32)), feed(1, blocks(32, 32))], 4096, 64, 64)


class ToTheByteBehindEachCall(Kept):

    def test_behind_each_of_a_row(self):
        calls = [THREES, OPEN, feed(0, text("ab")), feed(0, text("c")), feed(0, text("abcx")), OPEN,
                 feed(1, text("abcx")), close(1), close(0), drop(0), OPEN, feed(0, text("xabc")), drop(1), drop(0)]
        told = [(0, 0, 0), (0, 0, 0), (2, 1, 0), (3, 1, 1), (4, 3, 1), (4, 3, 1),
                (5, 5, 1), (5, 5, 2), (4, 5, 2), (4, 2, 2), (4, 2, 2), (8, 4, 3), (4, 2, 1), (0, 0, 0)]
        asked = sum([[call, KEPT] for call in calls], [])
        self.assertEqual(ask(*asked)[1::2], [[0] + list(numbers) for numbers in told])

    def test_feed_that_finishes_a_tail(self):
        calls = [OPEN, OPEN, feed(0, block(3)), feed(1, block(3)[:63])]
        self.keeps(calls, 127, 2, 1)
        self.keeps(calls + [feed(1, block(3)[63:])], 64, 2, 1)
        self.keeps(calls + [feed(1, [200])], 128, 2, 2)

    def test_close_with_an_empty_tail(self):
        calls = [OPEN, feed(0, block(3))]
        self.keeps(calls + [close(0)], 64, 1, 1)
        self.keeps([OPEN, close(0)], 0, 0, 0)

    def test_close_with_a_tail(self):
        self.keeps([OPEN, feed(0, block(3) + [1, 2]), close(0)], 66, 2, 2)
        self.keeps([OPEN, feed(0, [1, 2]), close(0)], 2, 1, 1)

    def test_close_that_makes_a_piece_that_is_there(self):
        calls = [OPEN, OPEN, feed(0, [1, 2]), feed(1, [1, 2])]
        self.keeps(calls, 4, 2, 0)
        self.keeps(calls + [close(0)], 4, 2, 1)
        self.keeps(calls + [close(0), close(1)], 2, 2, 1)

    def test_drop_of_one_of_two_that_share(self):
        calls = [OPEN, OPEN, feed(0, block(3) + block(4) + [1]), feed(1, block(4) + block(5) + [1])]
        self.keeps(calls, 194, 6, 3)
        self.keeps(calls + [drop(0)], 129, 3, 2)
        self.keeps(calls + [drop(1)], 129, 3, 2)
        self.keeps(calls + [drop(1), drop(0)], 0, 0, 0)

    def test_drop_of_a_stream_that_has_a_piece_twice(self):
        calls = [OPEN, OPEN, feed(0, [5] * 192), feed(1, [5] * 64)]
        self.keeps(calls, 64, 4, 1)
        self.keeps(calls + [drop(0)], 64, 1, 1)
        self.keeps(calls + [drop(1)], 64, 3, 1)

    def test_begin_and_on(self):
        self.keeps([OPEN, feed(0, [1] * 70), BEGIN, OPEN, feed(0, [2] * 65)], 65, 2, 1)


class BehindARefusal(Kept):

    def test_of_each_kind(self):
        base = [OPEN] * 8 + [feed(0, blocks(0, 32)), feed(1, blocks(32, 31)), feed(2, [1] * 60), close(3)]
        refused = ((OPEN, -4), (table(17, 1, 1), -2), (table(0, 1, 1), -6), (feed(3, [1]), -1), (feed(8, [1]), -1),
                   (feed(2, [1, 256]), -1), (feed(0, [1]), -3), (feed(2, [1] * 5 + blocks(99, 1)), -5),
                   (feed(4, blocks(0, 2) + [1] * 5), -5), (close(3), -1), (close(8), -1), (drop(8), -1))
        self.keeps(base, 63 * 64 + 60, 64, 63)
        for call, number in refused:
            self.assertEqual(ask(*base, call, KEPT)[-2:], [[number], [0, 63 * 64 + 60, 64, 63]], call[:4])

    def test_of_places(self):
        base = [table(0, 8, 8), OPEN, OPEN, feed(0, [5] * 2040)]
        self.assertEqual(ask(*base, feed(1, [5] * 9), KEPT, feed(1, [5] * 7), KEPT, feed(1, [5]), KEPT)[-6:],
                         [NO_ROOM, [0, 8, 255, 1], DONE, [0, 15, 256, 1], DONE, [0, 8, 256, 1]])


class KeptAndRoom(Kept):

    def test_a_feed_is_refused_just_above_4096(self):
        calls = [OPEN] * 3 + [feed(0, blocks(0, 32)), feed(1, blocks(32, 31) + [1] * 30)]
        for count in range(1, 64):
            answer = DONE if 63 * 64 + 30 + count <= 4096 else NO_ROOM
            room = 63 * 64 + 30 + (count if answer == DONE else 0)
            places = 65 if answer == DONE else 64
            self.assertEqual(ask(*calls, feed(2, [2] * count), KEPT)[-2:], [answer, [0, room, places, 63]], count)

    def test_a_feed_is_refused_just_above_256(self):
        for count in range(200, 300):
            calls = [table(1, 1, 8, [0 if byte == 1 else TOP_BIT for byte in range(256)]), OPEN, OPEN, feed(1, [2])]
            answer, told = ask(*calls, feed(0, [1] * count), KEPT)[-2:]
            if count <= 255:
                self.assertEqual((answer, told), (DONE, [0, 2, count + 1, 1]), count)
            else:
                self.assertEqual((answer, told), (NO_ROOM, [0, 1, 1, 0]), count)


if __name__ == "__main__":
    unittest.main()
