"""read: a stream's bytes from any place on, as many as are asked for."""

import unittest

from helper import BEGIN, DONE, OPEN, ask, blocks, close, drop, ended_by, feed, in_parts, last, read, size, table

NO_STREAM = [-1]

# 130 bytes, no two neighbours alike: by the first rule two pieces of 64, and 2 bytes behind them.
SOME = [(7 * place) % 251 for place in range(130)]
FED = [OPEN, feed(0, SOME)]
SHUT = FED + [close(0)]


class WhatIsRead(unittest.TestCase):

    def reads(self, start, cap, told):
        self.assertEqual(last(*FED, read(0, start, cap)), [0] + told, (start, cap))
        self.assertEqual(last(*SHUT, read(0, start, cap)), [0] + told, (start, cap, "closed"))

    def test_from_0(self):
        self.reads(0, 1, SOME[:1])
        self.reads(0, 5, SOME[:5])
        self.reads(0, 130, SOME)

    def test_from_within(self):
        self.reads(1, 1, SOME[1:2])
        self.reads(40, 10, SOME[40:50])
        self.reads(63, 1, SOME[63:64])
        self.reads(64, 1, SOME[64:65])
        self.reads(129, 1, SOME[129:])

    def test_from_the_streams_end(self):
        self.reads(130, 0, [])
        self.reads(130, 1, [])
        self.reads(130, 1000000, [])

    def test_from_above(self):
        for start in (131, 2048, 4096, 999999, 1000000):
            self.reads(start, 0, [])
            self.reads(start, 5, [])
            self.reads(start, 1000000, [])

    def test_cap_0(self):
        for start in (0, 1, 64, 128, 129):
            self.reads(start, 0, [])

    def test_cap_up_to_the_end_just(self):
        for start in (0, 1, 63, 64, 65, 127, 128, 129):
            self.reads(start, 130 - start, SOME[start:])
            self.reads(start, 129 - start, SOME[start:129])
            self.reads(start, 131 - start, SOME[start:])

    def test_cap_far_above(self):
        self.reads(0, 1000000, SOME)
        self.reads(77, 1000000, SOME[77:])
        self.reads(129, 1000000, SOME[129:])

    def test_over_a_pieces_end(self):
        self.reads(60, 8, SOME[60:68])
        self.reads(63, 2, SOME[63:65])
        self.reads(10, 100, SOME[10:110])

    def test_into_the_tail(self):
        self.reads(127, 2, SOME[127:129])
        self.reads(120, 10, SOME[120:])
        self.reads(30, 99, SOME[30:129])

    def test_the_tail_alone(self):
        self.reads(128, 2, SOME[128:])
        self.reads(128, 1, SOME[128:129])

    def test_bytes_0_and_255(self):
        self.assertEqual(last(OPEN, feed(0, [0, 255, 0, 0, 255]), read(0)), [0, 0, 255, 0, 0, 255])
        self.assertEqual(last(OPEN, feed(0, range(256)), read(0)), [0] + list(range(256)))


class WhatWasFed(unittest.TestCase):

    def rules(self):
        numbers = [(byte * 2654435761) % 2 ** 32 for byte in range(256)]
        return (table(0, 64, 64), table(3, 16, 100, numbers), table(0, 8, 256), table(16, 10, 256, numbers),
                ended_by(3, 40))

    def test_a_stream_without_bytes(self):
        for calls in ([OPEN], [OPEN, close(0)], [OPEN, feed(0, [])]):
            self.assertEqual(last(*calls, read(0)), DONE)
            self.assertEqual(last(*calls, read(0, 0, 0)), DONE)
            self.assertEqual(last(*calls, read(0, 5, 5)), DONE)

    def test_in_one_part_and_in_many_under_any_rule(self):
        some = [(place * place // 7) % 251 for place in range(1200)]
        for rule in self.rules():
            for length in (25, 64, 100, 599, 1200):
                parts = [rule, OPEN] + in_parts(0, some, length)
                self.assertEqual(last(*parts, read(0)), [0] + some, length)
                self.assertEqual(last(*parts, close(0), read(0)), [0] + some, length)
                self.assertEqual(last(*parts, read(0, 333, 444)), [0] + some[333:777], length)

    def test_as_many_as_a_stream_may_have(self):
        some = blocks(0, 32)
        self.assertEqual(last(OPEN, feed(0, some), read(0)), [0] + some)
        self.assertEqual(last(OPEN, feed(0, some), read(0, 2047, 1)), [0] + some[2047:])
        self.assertEqual(last(OPEN, feed(0, some), read(0, 2048, 1)), DONE)

    def test_where_a_piece_is_there_more_than_once(self):
        some = [5] * 64 + [6] * 64 + [5] * 64 + [5] * 3
        self.assertEqual(last(OPEN, OPEN, feed(1, [5] * 70), feed(0, some), read(0)), [0] + some)

    def test_the_named_stream_alone(self):
        calls = [OPEN] * 8 + [feed(stream, [stream] * (30 * stream)) for stream in range(8)]
        found = ask(*calls, *[read(stream) for stream in range(8)])[-8:]
        self.assertEqual(found, [[0] + [stream] * (30 * stream) for stream in range(8)])

    def test_feeds_of_two_streams_between_one_another(self):
        calls = [OPEN, OPEN] + [feed(place % 2, [place] * 30) for place in range(10)]
        told = [[0] + sum([[place] * 30 for place in range(first, 10, 2)], []) for first in (0, 1)]
        self.assertEqual(ask(*calls, read(0), read(1))[-2:], told)

    def test_behind_a_drop_of_a_stream_with_the_same_pieces(self):
        for dropped in (0, 1):
            calls = [OPEN, OPEN, feed(0, SOME), feed(1, SOME), drop(dropped)]
            self.assertEqual(ask(*calls, read(1 - dropped), read(dropped))[-2:], [[0] + SOME, NO_STREAM])

    def test_only_the_bytes_since_it_was_opened(self):
        self.assertEqual(last(*SHUT, drop(0), OPEN, feed(0, [9, 8]), read(0)), [0, 9, 8])
        self.assertEqual(last(*FED, BEGIN, OPEN, read(0)), DONE)

    def test_nothing_of_a_refused_feed(self):
        self.assertEqual(last(*FED, feed(0, [1, 2, 256]), read(0)), [0] + SOME)
        self.assertEqual(last(*FED, feed(0, [1] * 1919), read(0)), [0] + SOME)
        self.assertEqual(last(*SHUT, feed(0, [1]), read(0)), [0] + SOME)


class Refused(unittest.TestCase):

    def test_free(self):
        self.assertEqual(ask(read(0), read(7, 3, 3), read(0, 0, 0)), [NO_STREAM] * 3)
        self.assertEqual(ask(*FED, read(1), drop(0), read(0))[-3:], [NO_STREAM, DONE, NO_STREAM])

    def test_above_7(self):
        for stream in (8, 9, 255, 256, 1000000):
            self.assertEqual(last(*[OPEN] * 8, read(stream)), NO_STREAM, stream)
            self.assertEqual(last(*[OPEN] * 8, read(stream, 1000000, 0)), NO_STREAM, stream)

    def test_the_next_call_is_read_behind_it(self):
        self.assertEqual(ask(read(0, 3, 3), OPEN, read(0, 4, 4), size(0)), [NO_STREAM, [0, 0], DONE, [0, 0, 0]])


if __name__ == "__main__":
    unittest.main()
