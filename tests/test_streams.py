"""begin, open, close, drop and size: their answers and their refusals."""

import unittest

from helper import BEGIN, DONE, OPEN, ask, close, drop, feed, last, size, table

NO_STREAM = [-1]
NONE_FREE = [-4]
ABOVE = (8, 9, 255, 256, 1000000)


class Begin(unittest.TestCase):

    def test_answers_0(self):
        self.assertEqual(ask(BEGIN), [DONE])
        self.assertEqual(ask(BEGIN, BEGIN, BEGIN), [DONE] * 3)

    def test_all_streams_are_free_behind_it(self):
        calls = [OPEN] * 8 + [feed(3, [1, 2]), close(5), BEGIN] + [size(stream) for stream in range(8)]
        self.assertEqual(ask(*calls)[-8:], [NO_STREAM] * 8)
        self.assertEqual(last(*calls, OPEN), [0, 0])

    def test_streams_are_empty_behind_it(self):
        self.assertEqual(last(OPEN, feed(0, [1] * 100), close(0), BEGIN, OPEN, size(0)), [0, 0, 0])

    def test_room_is_given_back_behind_it(self):
        filled = [table(0, 8, 8), OPEN, feed(0, [1] * 2048)]
        self.assertEqual(last(*filled, OPEN, feed(1, [1])), [-5])
        self.assertEqual(last(*filled, BEGIN, OPEN, feed(0, [1])), DONE)


class Open(unittest.TestCase):

    def test_numbers_come_in_order(self):
        self.assertEqual(ask(*[OPEN] * 8), [[0, stream] for stream in range(8)])

    def test_none_is_free(self):
        self.assertEqual(ask(*[OPEN] * 10)[8:], [NONE_FREE, NONE_FREE])

    def test_closed_streams_are_not_free(self):
        self.assertEqual(last(OPEN, close(0), OPEN), [0, 1])
        calls = [OPEN] * 8 + [close(stream) for stream in range(8)]
        self.assertEqual(last(*calls, OPEN), NONE_FREE)

    def test_the_lowest_free_one_behind_a_drop(self):
        for stream in range(8):
            self.assertEqual(last(*[OPEN] * 8, drop(stream), OPEN), [0, stream])

    def test_the_lowest_of_several_free_ones(self):
        calls = [OPEN] * 8 + [drop(6), drop(2), drop(4), OPEN, OPEN, OPEN, OPEN]
        self.assertEqual(ask(*calls)[-4:], [[0, 2], [0, 4], [0, 6], NONE_FREE])

    def test_without_bytes(self):
        self.assertEqual(last(OPEN, size(0)), [0, 0, 0])
        self.assertEqual(last(OPEN, feed(0, [9] * 70), close(0), drop(0), OPEN, size(0)), [0, 0, 0])

    def test_refused_open_changes_nothing(self):
        calls = [OPEN] * 8 + [feed(stream, [1] * stream) for stream in range(8)] + [OPEN]
        calls += [size(stream) for stream in range(8)]
        self.assertEqual(ask(*calls)[-8:], [[0, stream, 0] for stream in range(8)])


class Close(unittest.TestCase):

    def test_answers_0(self):
        self.assertEqual(ask(OPEN, close(0)), [[0, 0], DONE])
        self.assertEqual(last(OPEN, feed(0, [1] * 130), close(0)), DONE)

    def test_keeps_the_bytes(self):
        for count in (0, 1, 63, 64, 65, 130, 2048):
            self.assertEqual(last(OPEN, feed(0, [1] * count), close(0), size(0)), [0, count, 1], count)

    def test_closed_already(self):
        self.assertEqual(ask(OPEN, feed(0, [1]), close(0), close(0), size(0))[-2:], [NO_STREAM, [0, 1, 1]])

    def test_free(self):
        self.assertEqual(ask(close(0)), [NO_STREAM])
        self.assertEqual(last(OPEN, close(1)), NO_STREAM)
        self.assertEqual(last(OPEN, drop(0), close(0)), NO_STREAM)
        self.assertEqual(last(OPEN, close(0), drop(0), close(0)), NO_STREAM)

    def test_above_7(self):
        for stream in ABOVE:
            self.assertEqual(last(*[OPEN] * 8, close(stream)), NO_STREAM, stream)

    def test_only_the_named_one(self):
        self.assertEqual(ask(OPEN, OPEN, OPEN, close(1), size(0), size(1), size(2))[-3:],
                         [[0, 0, 0], [0, 0, 1], [0, 0, 0]])

    def test_an_opened_one_again_is_not_closed(self):
        self.assertEqual(ask(OPEN, close(0), drop(0), OPEN, feed(0, [1]), size(0))[-2:], [DONE, [0, 1, 0]])


class Drop(unittest.TestCase):

    def test_answers_0(self):
        self.assertEqual(last(OPEN, drop(0)), DONE)
        self.assertEqual(last(OPEN, feed(0, [1] * 100), drop(0)), DONE)
        self.assertEqual(last(OPEN, feed(0, [1] * 100), close(0), drop(0)), DONE)

    def test_it_is_free_then(self):
        self.assertEqual(ask(OPEN, feed(0, [1]), drop(0), size(0), feed(0, [1]), close(0), drop(0))[-4:],
                         [NO_STREAM] * 4)

    def test_free(self):
        self.assertEqual(ask(drop(0)), [NO_STREAM])
        self.assertEqual(last(OPEN, drop(1)), NO_STREAM)

    def test_above_7(self):
        for stream in ABOVE:
            self.assertEqual(last(*[OPEN] * 8, drop(stream)), NO_STREAM, stream)

    def test_only_the_named_one(self):
        calls = [OPEN, OPEN, OPEN, feed(0, [1] * 70), feed(1, [1] * 70), feed(2, [1] * 70), close(2), drop(1)]
        self.assertEqual(ask(*calls, size(0), size(1), size(2))[-3:], [[0, 70, 0], NO_STREAM, [0, 70, 1]])


class Size(unittest.TestCase):

    def test_counts_bytes(self):
        for count in (0, 1, 2, 63, 64, 65, 127, 128, 129, 2047, 2048):
            self.assertEqual(last(OPEN, feed(0, [3] * count), size(0)), [0, count, 0], count)

    def test_counts_all_parts(self):
        parts = [feed(0, [3] * count) for count in (5, 0, 64, 1, 200)]
        self.assertEqual(last(OPEN, *parts, size(0)), [0, 270, 0])

    def test_tells_closed(self):
        self.assertEqual(last(OPEN, feed(0, [3] * 130), size(0)), [0, 130, 0])
        self.assertEqual(last(OPEN, feed(0, [3] * 130), close(0), size(0)), [0, 130, 1])

    def test_of_each_stream(self):
        calls = [OPEN] * 8 + [feed(stream, [3] * (10 * stream)) for stream in range(8)] + [close(2), close(7)]
        found = ask(*calls, *[size(stream) for stream in range(8)])[-8:]
        self.assertEqual(found, [[0, 10 * stream, int(stream in (2, 7))] for stream in range(8)])

    def test_free(self):
        self.assertEqual(ask(size(0), size(7)), [NO_STREAM, NO_STREAM])
        self.assertEqual(last(OPEN, size(1)), NO_STREAM)
        self.assertEqual(last(OPEN, drop(0), size(0)), NO_STREAM)

    def test_above_7(self):
        for stream in ABOVE:
            self.assertEqual(last(*[OPEN] * 8, size(stream)), NO_STREAM, stream)

    def test_changes_nothing(self):
        self.assertEqual(ask(OPEN, feed(0, [1] * 9), size(0), size(0), feed(0, [1]), size(0))[-4:],
                         [[0, 9, 0], [0, 9, 0], DONE, [0, 10, 0]])


if __name__ == "__main__":
    unittest.main()
