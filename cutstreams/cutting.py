"""The rule, and where it cuts a row of bytes."""

MODULUS = 4294967296
TABLE_LENGTH = 256
MOST_BITS = 16
LARGEST_PIECE = 256
FIRST_SIZE = 64


class Rule:

    def __init__(self, bits, least, most, table):
        # MODULUS is 2^32, so this is 2^(32 - bits).
        self.limit = MODULUS >> bits
        self.least = least
        self.most = most
        self.table = table

    def next_number(self, number, byte):
        return (2 * number + self.table[byte]) % MODULUS

    def ends_piece(self, length, number):
        if length == self.most:
            return True
        return length >= self.least and number < self.limit


def first_rule():
    return Rule(0, FIRST_SIZE, FIRST_SIZE, [0] * TABLE_LENGTH)


def is_rule(bits, least, most, numbers):
    if len(numbers) != TABLE_LENGTH or bits > MOST_BITS:
        return False
    return 1 <= least and least <= most and most <= LARGEST_PIECE


# The last row given back is the tail, also where it is empty: all before it are pieces.
def cut(rule, some):
    rows = []
    row = []
    number = 0
    for byte in some:
        row.append(byte)
        number = rule.next_number(number, byte)
        if rule.ends_piece(len(row), number):
            rows.append(tuple(row))
            row = []
            # A piece's end must hang on its own bytes alone, so nothing of the number goes on.
            number = 0
    rows.append(tuple(row))
    return rows
