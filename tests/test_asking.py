"""The six calls that only ask: behind each of them, answered or refused, nothing has changed."""

import unittest

from helper import (DONE, KEPT, OPEN, ask, block, close, drop, feed, has, last, pieces, read, shared, table, tail, text,
                    whole_state)

# An open stream with a tail, a closed one, one without bytes, a free one, one that is closed without bytes.
BASE = [table(0, 3, 8), *[OPEN] * 5, feed(0, text("abcabcdx")), feed(1, text("abcx")), close(1), drop(3), close(4)]

ASKED = ([read(stream, start, cap) for stream in (0, 1, 2, 3, 8) for start, cap in ((0, 1000000), (2, 3), (99, 0))]
         + [pieces(stream) for stream in (0, 1, 2, 3, 4, 8, 1000000)]
         + [tail(stream) for stream in (0, 1, 2, 3, 4, 8, 1000000)]
         + [has(some) for some in (text("abc"), text("x"), text("dx"), [], [256], [4294967295] * 3)]
         + [shared(stream, other) for stream in (0, 1, 2, 3, 8) for other in (0, 1, 2, 3, 8)]
         + [KEPT])


class NothingHasChanged(unittest.TestCase):

    def test_all_that_can_be_told_is_as_before(self):
        before = ask(*BASE, *whole_state())[-41:]
        for call in ASKED:
            self.assertEqual(ask(*BASE, call, *whole_state())[-41:], before, call)

    def test_asked_twice_alike(self):
        for call in ASKED:
            first, second = ask(*BASE, call, call)[-2:]
            self.assertEqual(first, second, call)

    def test_what_comes_behind_is_as_without_it(self):
        behind = [feed(0, text("yabc")), feed(2, text("abcx")), OPEN, feed(3, text("q")), close(0), drop(1), KEPT,
                  read(0), pieces(0), tail(2), has(text("x")), shared(2, 0), table(0, 1, 1)]
        told = ask(*BASE, *behind)[-len(behind):]
        for call in ASKED:
            self.assertEqual(ask(*BASE, call, *behind)[-len(behind):], told, call)

    def test_the_rule_is_as_before(self):
        for call in ASKED:
            self.assertEqual(last(table(0, 5, 5), call, OPEN, feed(0, [1] * 12), pieces(0)), [0, 5, 5], call)
            self.assertEqual(last(call, OPEN, feed(0, [1] * 130), pieces(0)), [0, 64, 64], call)

    def test_a_row_that_is_asked_for_takes_no_room(self):
        calls = [has(block(name)) for name in range(57)]
        self.assertEqual(ask(*calls, KEPT, has(block(0)))[-2:], [[0, 0, 0, 0], [0, 0]])


class OfEachKindOfStream(unittest.TestCase):

    def test_open_closed_without_bytes_free_and_above(self):
        told = {0: ([97, 98, 99, 97, 98, 99, 100, 120], [3, 3], [100, 120], 6),
                1: ([97, 98, 99, 120], [3, 1], [], 3),
                2: ([], [], [], 0),
                4: ([], [], [], 0)}
        for stream, (some, lengths, left, in_both) in told.items():
            found = ask(*BASE, read(stream), pieces(stream), tail(stream), shared(stream, 0))[-4:]
            self.assertEqual(found, [[0] + some, [0] + lengths, [0] + left, [0, in_both]], stream)
        for stream in (3, 5, 6, 7, 8, 9, 1000000):
            asked = [read(stream), pieces(stream), tail(stream), shared(stream, 0), shared(0, stream)]
            self.assertEqual(ask(*BASE, *asked)[-5:], [[-1]] * 5, stream)
        self.assertEqual(last(*BASE, KEPT), [0, 6, 5, 2])

    def test_the_empty_answer_is_0_alone(self):
        self.assertEqual(ask(OPEN, read(0), pieces(0), tail(0))[1:], [DONE] * 3)


if __name__ == "__main__":
    unittest.main()
