"""pieces and tail: where a stream is cut, and what is left behind the last cut."""

import unittest

from helper import (DONE, OPEN, TOP_BIT, ask, close, drop, ended_by, feed, in_parts, last, numbers_of, pieces, read,
                    table, tail)

NO_STREAM = [-1]
SCATTERED = [(byte * 2654435761 + 12345) % 2 ** 32 for byte in range(256)]
SOME = [(place * place // 7 + place) % 251 for place in range(1500)]


def rules():
    """Each with its least and most."""
    return ((table(0, 64, 64), 64, 64), (table(3, 16, 100, SCATTERED), 16, 100), (table(0, 9, 256), 9, 256),
            (table(5, 30, 31, SCATTERED), 30, 31), (table(16, 20, 256, SCATTERED), 20, 256),
            (table(2, 12, 256, range(256)), 12, 256))


def cut_as(*calls):
    """The lengths of stream 0's pieces, and its tail."""
    found = ask(*calls, pieces(0), tail(0))[-2:]
    return found[0][1:], found[1][1:]


class Lengths(unittest.TestCase):

    def test_a_stream_without_bytes(self):
        for calls in ([OPEN], [OPEN, feed(0, [])], [OPEN, close(0)], [OPEN, feed(0, []), close(0)]):
            self.assertEqual(ask(*calls, pieces(0), tail(0))[-2:], [DONE, DONE])

    def test_by_the_first_rule(self):
        for count, told in ((1, []), (63, []), (64, [64]), (65, [64]), (127, [64]), (128, [64, 64]), (2048, [64] * 32)):
            some = [(3 * place) % 256 for place in range(count)]
            self.assertEqual(cut_as(OPEN, feed(0, some)), (told, some[sum(told):]), count)

    def test_in_order(self):
        some = [2] * 5 + [1] + [1] + [2] * 255 + [1] + [2] * 256 + [3, 3, 1, 3]
        self.assertEqual(cut_as(ended_by(1), OPEN, feed(0, some)), ([6, 1, 256, 256, 3], [3]))

    def test_of_the_named_stream(self):
        calls = [OPEN] * 8 + [feed(stream, [stream] * (64 * stream + stream)) for stream in range(8)]
        asked = [pieces(stream) for stream in range(8)] + [tail(stream) for stream in range(8)]
        found = ask(*calls, *asked)[-16:]
        self.assertEqual(found[:8], [[0] + [64] * stream for stream in range(8)])
        self.assertEqual(found[8:], [[0] + [stream] * stream for stream in range(8)])

    def test_a_piece_that_is_there_twice_is_told_twice(self):
        self.assertEqual(cut_as(table(0, 3, 8), OPEN, feed(0, [5] * 10)), ([3, 3, 3], [5]))

    def test_each_256_places(self):
        self.assertEqual(cut_as(table(0, 1, 1), OPEN, feed(0, [5] * 256)), ([1] * 256, []))


class Parts(unittest.TestCase):

    def test_in_one_part_and_in_many(self):
        for rule, least, most in rules():
            whole = cut_as(rule, OPEN, feed(0, SOME))
            for length in (27, 64, 65, 100, 700, 1499):
                parts = [rule, OPEN] + in_parts(0, SOME, length)
                self.assertEqual(cut_as(*parts), whole, (least, most, length))

    def test_byte_by_byte(self):
        for rule, least, most in rules():
            whole = cut_as(rule, OPEN, feed(0, SOME[:50]))
            self.assertEqual(cut_as(rule, OPEN, *in_parts(0, SOME[:50], 1)), whole, (least, most))

    def test_with_parts_of_no_bytes_between(self):
        parts = [feed(0, SOME[:70]), feed(0, []), feed(0, SOME[70:100]), feed(0, []), feed(0, [])]
        self.assertEqual(cut_as(OPEN, feed(0, []), *parts), ([64], SOME[64:100]))

    def test_the_tail_before_the_end_is_reached(self):
        found = ask(OPEN, feed(0, [1] * 60), tail(0), feed(0, [2] * 3), tail(0), feed(0, [3] * 2), tail(0), pieces(0))
        self.assertEqual(found[2::2], [[0] + [1] * 60, [0] + [1] * 60 + [2] * 3, [0, 3]])
        self.assertEqual(found[-1], [0, 64])

    def test_the_tail_behind_a_refused_feed(self):
        calls = [table(0, 8, 8), OPEN, OPEN, feed(1, [1] * 2040), feed(0, [1, 2, 3])]
        for refused, number in (([5] * 6, -5), ([256], -1), ([5] * 2046, -3)):
            found = ask(*calls, feed(0, refused), pieces(0), tail(0))
            self.assertEqual(found[-3:], [[number], DONE, [0, 1, 2, 3]])


class Closed(unittest.TestCase):

    def test_a_tail_that_is_empty(self):
        self.assertEqual(cut_as(OPEN, feed(0, [1] * 128), close(0)), ([64, 64], []))
        self.assertEqual(cut_as(ended_by(1), OPEN, feed(0, [2, 2, 1]), close(0)), ([3], []))

    def test_a_tail_that_is_not(self):
        self.assertEqual(cut_as(OPEN, feed(0, [1] * 129), close(0)), ([64, 64, 1], []))
        self.assertEqual(cut_as(OPEN, feed(0, [1] * 63), close(0)), ([63], []))
        self.assertEqual(cut_as(ended_by(1), OPEN, feed(0, [2, 2, 1, 5, 5]), close(0)), ([3, 2], []))

    def test_a_tail_of_least_bytes_and_more(self):
        rule = table(1, 2, 8, [TOP_BIT] * 256)
        for count in range(1, 8):
            self.assertEqual(cut_as(rule, OPEN, feed(0, [1] * (8 + count)), close(0)), ([8, count], []), count)

    def test_the_named_stream_alone(self):
        calls = [OPEN, OPEN, feed(0, [1] * 70), feed(1, [1] * 70), close(1)]
        self.assertEqual(ask(*calls, pieces(0), tail(0), pieces(1), tail(1))[-4:],
                         [[0, 64], [0] + [1] * 6, [0, 64, 6], DONE])

    def test_a_second_close_changes_nothing(self):
        self.assertEqual(cut_as(OPEN, feed(0, [1] * 70), close(0), close(0)), ([64, 6], []))


class PiecesAndTailAreTheBytes(unittest.TestCase):

    def test_their_lengths_together(self):
        for rule, least, most in rules():
            for count in (0, 1, least, most, 500, 1500):
                for calls in ([], [close(0)]):
                    lengths, left = cut_as(rule, OPEN, feed(0, SOME[:count]), *calls)
                    self.assertEqual(sum(lengths) + len(left), count, (least, most, count))
                    self.assertEqual(left, SOME[count - len(left):count], (least, most, count))

    def test_each_piece_by_its_place_in_the_bytes(self):
        lengths, left = cut_as(table(3, 16, 100, SCATTERED), OPEN, feed(0, SOME))
        calls = [table(3, 16, 100, SCATTERED), OPEN, feed(0, SOME)]
        place = 0
        for length in lengths:
            # Alone in a stream, the same bytes are one piece and no tail.
            some = last(*calls, read(0, place, length))[1:]
            self.assertEqual(cut_as(calls[0], OPEN, feed(0, some)), ([length], []), place)
            place += length
        self.assertEqual(last(*calls, read(0, place)), [0] + left)


class Sizes(unittest.TestCase):

    def test_from_least_to_most(self):
        for rule, least, most in rules():
            lengths, left = cut_as(rule, OPEN, feed(0, SOME))
            self.assertGreaterEqual(min(lengths), least)
            self.assertLessEqual(max(lengths), most)
            self.assertLess(len(left), most)

    def test_but_a_closed_streams_last(self):
        for rule, least, most in rules():
            lengths, left = cut_as(rule, OPEN, feed(0, SOME))
            # By as much as this there is a tail of one byte.
            some = SOME[:sum(lengths[:-1]) + 1]
            shut, nothing = cut_as(rule, OPEN, feed(0, some), close(0))
            self.assertEqual((shut, nothing), (lengths[:-1] + [1], []), (least, most))

    def test_least_is_reached(self):
        for least in (1, 2, 64, 255, 256):
            self.assertEqual(cut_as(table(0, least, 256), OPEN, feed(0, [5] * 256))[0], [least] * (256 // least))

    def test_most_is_reached(self):
        for most in (10, 64, 255, 256):
            rule = table(16, 1, most, [TOP_BIT] * 256)
            self.assertEqual(cut_as(rule, OPEN, feed(0, [5] * 600)), ([most] * (600 // most), [5] * (600 % most)))

    def test_a_number_below_the_limit_ends_just_from_least_on(self):
        # 1 ends a row from its third byte on; behind two bytes it does not.
        rule = table(1, 3, 256, [0 if byte == 1 else TOP_BIT for byte in range(256)])
        self.assertEqual(cut_as(rule, OPEN, feed(0, [2, 1, 2, 1, 2, 2, 1, 1, 1, 1, 9])), ([4, 3, 3], [9]))

    def test_the_limit(self):
        for bits in range(1, 17):
            below = table(bits, 1, 256, numbers_of({5: 2 ** (32 - bits) - 1}))
            self.assertEqual(cut_as(below, OPEN, feed(0, [5, 5])), ([1, 1], []), bits)
            at_it = table(bits, 1, 256, numbers_of({5: 2 ** (32 - bits)}))
            self.assertEqual(cut_as(at_it, OPEN, feed(0, [5] + [0] * (bits + 1))), ([bits + 1, 1], []), bits)

    def test_modulo_2_to_the_32(self):
        # Behind k bytes 5 the number is 1 - 2^k, modulo 2^32: below 2^16 only behind 32 of them.
        rule = table(16, 1, 256, numbers_of({5: 4294967295}))
        self.assertEqual(cut_as(rule, OPEN, feed(0, [5] * 70)), ([32, 32], [5] * 6))


class Alike(unittest.TestCase):

    def behind(self, lengths, place):
        """The lengths behind this place, at which a piece must end."""
        total = 0
        for count, length in enumerate(lengths):
            if total == place:
                return lengths[count:]
            total += length
        self.assertEqual(total, place)
        return []

    def test_streams_that_go_on_alike_behind_a_pieces_end(self):
        for rule, least, most in rules():
            first, left = cut_as(rule, OPEN, feed(0, SOME))
            for count in (1, 2, len(first) // 2):
                place = sum(first[:count])
                # Another beginning, of one piece just, and what is behind that place in the first.
                start = [251 + some % 5 for some in SOME[:most]]
                length = cut_as(rule, OPEN, feed(0, start))[0][0]
                second, other_left = cut_as(rule, OPEN, feed(0, start[:length] + SOME[place:]))
                self.assertEqual(second[1:], self.behind(first, place), (least, most, count))
                self.assertEqual(other_left, left, (least, most, count))

    def test_from_any_place_at_which_a_piece_ends(self):
        rule = table(3, 16, 100, SCATTERED)
        lengths, left = cut_as(rule, OPEN, feed(0, SOME))
        for count in range(len(lengths) + 1):
            place = sum(lengths[:count])
            self.assertEqual(cut_as(rule, OPEN, feed(0, SOME[place:])), (lengths[count:], left), count)

    def test_the_number_does_not_go_on(self):
        # 2 ends with the number 2^30: were it to go on, it would be 2^31 at the 0, and end nothing.
        rule = table(1, 1, 256, numbers_of({2: 2 ** 30}))
        self.assertEqual(cut_as(rule, OPEN, feed(0, [2, 0, 2, 0, 0])), ([1] * 5, []))

    def test_two_open_streams_beside_one_another(self):
        common = [2, 3, 1, 4, 1, 5, 5, 5, 1, 6]
        calls = [ended_by(1), OPEN, OPEN, feed(0, [7] * 300 + [1] + common), feed(1, [8, 1] + common)]
        self.assertEqual(ask(*calls, pieces(0), tail(0), pieces(1), tail(1))[-4:],
                         [[0, 256, 45, 3, 2, 4], [0, 6], [0, 2, 3, 2, 4], [0, 6]])


class Refused(unittest.TestCase):

    def test_free(self):
        self.assertEqual(ask(pieces(0), tail(0), pieces(7), tail(7)), [NO_STREAM] * 4)
        self.assertEqual(ask(OPEN, pieces(1), tail(1))[-2:], [NO_STREAM] * 2)
        for calls in ([], [close(0)]):
            self.assertEqual(ask(OPEN, feed(0, [1] * 70), *calls, drop(0), pieces(0), tail(0))[-2:], [NO_STREAM] * 2)

    def test_above_7(self):
        for stream in (8, 9, 255, 256, 1000000):
            self.assertEqual(ask(*[OPEN] * 8, pieces(stream), tail(stream))[-2:], [NO_STREAM] * 2, stream)


if __name__ == "__main__":
    unittest.main()
