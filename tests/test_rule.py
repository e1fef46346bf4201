"""table: which rules are taken, which are refused, and by which number."""

import unittest

from helper import BEGIN, DONE, OPEN, TOP_BIT, ask, blocks, close, drop, feed, last, numbers_of, size, table

NO_RULE = [-2]
NOT_ALL_FREE = [-6]


def places_used(rule, some):
    """How many places some takes in one stream, told by how many pieces of another are taken beside it.

    The rule must make each byte 9 a piece by itself.
    """
    for filling in range(257):
        probe = last(rule, OPEN, OPEN, feed(0, some), feed(1, [9] * filling))
        if probe != DONE:
            return 257 - filling
    return 0


class RulesTaken(unittest.TestCase):

    def test_ordinary(self):
        self.assertEqual(ask(table(5, 16, 128, range(256))), [DONE])

    def test_bits_edges(self):
        for bits in (0, 1, 15, 16):
            self.assertEqual(ask(table(bits, 1, 256)), [DONE], bits)

    def test_size_edges(self):
        for least, most in ((1, 1), (1, 256), (256, 256), (64, 64), (63, 64)):
            self.assertEqual(ask(table(3, least, most)), [DONE], (least, most))

    def test_largest_number(self):
        self.assertEqual(ask(table(16, 1, 256, [4294967295] * 256)), [DONE])


class RulesRefused(unittest.TestCase):

    def test_bits(self):
        for bits in (17, 18, 32, 33, 1000000):
            self.assertEqual(ask(table(bits, 64, 64)), [NO_RULE], bits)

    def test_least(self):
        for least in (0, 257, 1000000):
            self.assertEqual(ask(table(0, least, 256)), [NO_RULE], least)

    def test_most(self):
        for most in (257, 1000000):
            self.assertEqual(ask(table(0, 1, most)), [NO_RULE], most)

    def test_both_sizes(self):
        for both in (0, 257):
            self.assertEqual(ask(table(0, both, both)), [NO_RULE], both)

    def test_most_below_least(self):
        for least, most in ((1, 0), (2, 1), (64, 63), (256, 255), (256, 1)):
            self.assertEqual(ask(table(0, least, most)), [NO_RULE], (least, most))

    def test_other_than_256_numbers(self):
        for count in (0, 1, 255, 257, 512, 30900):
            self.assertEqual(ask(table(0, 64, 64, [0] * count)), [NO_RULE], count)

    def test_next_call_is_read_behind_a_refused_table(self):
        for count in (0, 255, 257):
            self.assertEqual(ask(table(0, 64, 64, [3] * count), OPEN), [NO_RULE, [0, 0]], count)

    def test_while_a_stream_is_taken(self):
        self.assertEqual(last(OPEN, table(0, 64, 64)), NOT_ALL_FREE)
        self.assertEqual(last(OPEN, close(0), table(0, 64, 64)), NOT_ALL_FREE)
        self.assertEqual(last(*[OPEN] * 8, *[drop(stream) for stream in range(7)], table(0, 64, 64)), NOT_ALL_FREE)

    def test_when_all_are_free_again(self):
        self.assertEqual(last(OPEN, drop(0), table(0, 64, 64)), DONE)
        self.assertEqual(last(OPEN, OPEN, close(0), drop(1), drop(0), table(0, 64, 64)), DONE)
        self.assertEqual(last(OPEN, OPEN, BEGIN, table(0, 64, 64)), DONE)

    def test_no_rule_is_told_before_streams(self):
        for wrong in (table(17, 64, 64), table(0, 0, 64), table(0, 2, 1), table(0, 1, 257), table(0, 1, 1, [0])):
            self.assertEqual(last(OPEN, wrong), NO_RULE)


class RuleInForce(unittest.TestCase):

    # With least and most n, 2,048 bytes have 2,048 / n pieces: 256 places are taken by pieces of 8.
    def pieces_of_8_are_in_force(self, *calls):
        full = last(*calls, OPEN, OPEN, feed(0, [5] * 2048))
        over = last(*calls, OPEN, OPEN, feed(0, [5] * 2048), feed(1, [5]))
        return full == DONE and over == [-5]

    # The room is full to the byte with 64 pieces of 64: what is like one of them just is still taken.
    def first_rule_is_in_force(self, *calls):
        full = [*calls, OPEN, OPEN, OPEN, feed(0, blocks(0, 32)), feed(1, blocks(32, 32))]
        like_one = last(*full, feed(2, blocks(5, 1))) == DONE
        shorter = last(*full, feed(2, blocks(5, 1)[:63])) == DONE
        longer = last(*full, feed(2, blocks(5, 1) + [0])) == DONE
        return like_one and not shorter and not longer

    def test_a_table_is_the_rule(self):
        self.assertTrue(self.pieces_of_8_are_in_force(table(0, 8, 8)))

    def test_a_later_table_is_the_rule(self):
        self.assertTrue(self.pieces_of_8_are_in_force(table(0, 64, 64), table(0, 8, 8)))

    def test_a_refused_table_changes_nothing(self):
        for wrong in (table(17, 9, 9), table(0, 9, 8), table(0, 9, 257), table(0, 9, 9, [0] * 255)):
            self.assertTrue(self.pieces_of_8_are_in_force(table(0, 8, 8), wrong))

    def test_a_table_refused_for_its_streams_changes_nothing(self):
        calls = (table(0, 8, 8), OPEN, table(0, 9, 9), drop(0))
        self.assertTrue(self.pieces_of_8_are_in_force(*calls))

    def test_the_rule_stays_when_all_streams_are_dropped(self):
        self.assertTrue(self.pieces_of_8_are_in_force(table(0, 8, 8), OPEN, feed(0, [1] * 20), drop(0)))

    def test_the_rule_at_first(self):
        self.assertTrue(self.first_rule_is_in_force())

    def test_the_rule_behind_begin(self):
        self.assertFalse(self.first_rule_is_in_force(table(0, 8, 8)))
        self.assertTrue(self.first_rule_is_in_force(table(0, 8, 8), BEGIN))


class WhereARowEndsAPiece(unittest.TestCase):

    def test_bits_0_end_each_row_of_least_bytes(self):
        rule = table(0, 1, 256, [4294967295] * 256)
        self.assertEqual(places_used(rule, [1, 2, 3, 4]), 4)

    def test_a_number_just_below_the_limit_ends(self):
        for bits in (1, 2, 15, 16):
            rule = table(bits, 1, 256, numbers_of({1: 2 ** (32 - bits) - 1}))
            self.assertEqual(places_used(rule, [1, 1, 1]), 3, bits)

    def test_a_number_at_the_limit_does_not_end(self):
        for bits in (1, 2, 15, 16):
            rule = table(bits, 1, 256, numbers_of({1: 2 ** (32 - bits)}))
            self.assertEqual(places_used(rule, [1]), 1, bits)
            # Twice the number, bits times over, is nought: so just then the row ends.
            self.assertEqual(places_used(rule, [1] + [0] * bits), 1, bits)
            self.assertEqual(places_used(rule, [1] + [0] * (bits + 2)), 3, bits)

    def test_modulo_2_to_the_32(self):
        # Behind k bytes the number is 2^32 - (2^k - 1), modulo 2^32: below 2^31 only behind 32 of them.
        rule = table(1, 1, 256, [4294967295] * 8 + [0] * 248)
        self.assertEqual(places_used(rule, [1] * 32), 1)
        self.assertEqual(places_used(rule, [1] * 33), 2)
        self.assertEqual(places_used(rule, [1] * 32 + [9] * 3), 4)

    def test_largest_number_with_16_bits(self):
        rule = table(16, 1, 256, [4294967295] * 8 + [0] * 248)
        self.assertEqual(places_used(rule, [1] * 96 + [9]), 4)

    def test_the_number_is_twice_the_one_before_and_the_bytes_own(self):
        # 2 * 2^30 + 2^31 is nought modulo 2^32; without the doubling, or the other way round, it would not be.
        rule = table(1, 2, 256, numbers_of({1: 2 ** 30, 2: TOP_BIT}))
        self.assertEqual(last(rule, OPEN, feed(0, [1, 2] * 256)), DONE)
        self.assertEqual(last(rule, OPEN, feed(0, [1, 2] * 256 + [1])), [-5])

    def test_the_table_counts_from_0(self):
        never = table(1, 1, 256, [TOP_BIT] + [0] * 255)
        self.assertEqual(places_used(never, [0] * 200), 1)
        self.assertEqual(places_used(never, [1] * 200), 200)
        last_one = table(1, 1, 256, [0] * 255 + [TOP_BIT])
        self.assertEqual(places_used(last_one, [255] * 200), 1)
        self.assertEqual(places_used(last_one, [254] * 200), 200)

    def test_the_number_does_not_go_on_over_a_pieces_end(self):
        # 2 ends with the number 2^30; were it to go on, the 0 behind it would not end a piece.
        rule = table(1, 1, 256, numbers_of({2: 2 ** 30}))
        self.assertEqual(places_used(rule, [2, 0] * 50), 100)

    def test_the_number_counts_below_least_too(self):
        # 1, 0 has the number nought, 0, 1 has 2^31: least alone does not tell them apart.
        rule = table(1, 2, 256, numbers_of({1: TOP_BIT}))
        self.assertEqual(last(rule, OPEN, feed(0, [1, 0] * 256)), DONE)
        self.assertEqual(last(rule, OPEN, feed(0, [1, 0] * 256), feed(0, [0])), [-5])
        # 0, 1 does not end at least, but 0, 1, 0 does.
        self.assertEqual(last(rule, OPEN, feed(0, [0, 1, 0] * 256)), DONE)
        self.assertEqual(last(rule, OPEN, feed(0, [0, 1, 0] * 256), feed(0, [0])), [-5])

    def test_least_is_not_looked_at_one_byte_early_nor_late(self):
        for least, streams in ((8, 1), (16, 2), (32, 4)):
            calls = [table(0, least, 256)] + [OPEN] * (streams + 1)
            calls += [feed(stream, [5] * 2048) for stream in range(streams)]
            self.assertEqual(ask(*calls)[-streams:], [DONE] * streams, least)
            self.assertEqual(last(*calls, feed(streams, [5])), [-5], least)

    def test_most_ends_where_the_number_does_not(self):
        for least in (1, 7, 8):
            rule = table(1, least, 8, [TOP_BIT] * 256)
            self.assertEqual(last(rule, OPEN, OPEN, feed(0, [5] * 2048)), DONE, least)
            self.assertEqual(last(rule, OPEN, OPEN, feed(0, [5] * 2048), feed(1, [5])), [-5], least)

    def test_most_of_1(self):
        rule = table(16, 1, 1, [4294967295] * 256)
        self.assertEqual(last(rule, OPEN, feed(0, [5] * 256)), DONE)
        self.assertEqual(last(rule, OPEN, feed(0, [5] * 257)), [-5])

    def test_most_of_256(self):
        rule = table(1, 1, 256, numbers_of({5: TOP_BIT}))
        self.assertEqual(places_used(rule, [5] * 255), 1)
        self.assertEqual(places_used(rule, [5] * 256 + [9]), 2)
        self.assertEqual(places_used(rule, [5] * 512 + [9]), 3)

    def test_a_piece_of_most_bytes_starts_the_number_anew(self):
        # The first 5 behind a piece of 256 still has the number 2^31: a 0 behind it makes it nought.
        rule = table(1, 1, 256, numbers_of({5: TOP_BIT}))
        self.assertEqual(places_used(rule, [5] * 256 + [0]), 2)
        self.assertEqual(places_used(rule, [5] * 257 + [0]), 2)


class SizeIsNotTheRulesMatter(unittest.TestCase):

    def test_bytes_are_all_there_under_any_rule(self):
        for rule in (table(0, 8, 8), table(16, 8, 256, [4294967295] * 256), table(1, 30, 31, [TOP_BIT] * 256)):
            self.assertEqual(last(rule, OPEN, feed(0, [5] * 1000), feed(0, [6] * 77), size(0)), [0, 1077, 0])


if __name__ == "__main__":
    unittest.main()
