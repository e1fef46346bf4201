"""Shared by the tests: calls written out as numbers, answers taken apart, and rows of bytes to feed."""

from cutstreams.keeper import answers

BEGIN = [1]
OPEN = [3]
DONE = [0]
KEPT = [13]

TOP_BIT = 2 ** 31


def table(bits, least, most, numbers=None):
    if numbers is None:
        numbers = [0] * 256
    return [2, bits, least, most, len(numbers)] + list(numbers)


def numbers_of(named):
    """A table of noughts but for the bytes that are named."""
    return [named.get(byte, 0) for byte in range(256)]


def feed(stream, some):
    return [4, stream, len(some)] + list(some)


def close(stream):
    return [5, stream]


def drop(stream):
    return [6, stream]


def size(stream):
    return [7, stream]


def read(stream, start=0, cap=1000000):
    return [8, stream, start, cap]


def pieces(stream):
    return [9, stream]


def tail(stream):
    return [10, stream]


def has(some):
    return [11, len(some)] + list(some)


def shared(stream, other):
    return [12, stream, other]


def ask(*calls):
    """What each of these calls answers, one behind another on one new object."""
    joined = []
    for call in calls:
        joined.extend(call)
    # More is never handed in: a test that does so tells nothing.
    if len(calls) > 60 or len(joined) > 31000:
        raise ValueError("a list of calls that is too long")
    given = answers(joined)
    found = []
    place = 0
    while place < len(given):
        end = place + 1 + given[place]
        # A wrong count must fail a test, not keep this loop going.
        if end <= place + 1 or end > len(given):
            raise ValueError("a count of answered numbers that can't be")
        found.append(given[place + 1:end])
        place = end
    return found


def last(*calls):
    return ask(*calls)[-1]


def block(name, length=64):
    """A row of bytes that no other name (0 to 65535) gives, also for rows cut off behind their second byte."""
    return [name // 256, name % 256] + [7] * (length - 2)


def blocks(first, count, length=64):
    some = []
    for name in range(first, first + count):
        some.extend(block(name, length))
    return some


def text(letters):
    return [ord(letter) for letter in letters]


def ended_by(*bytes_that_end):
    """A rule by which just these bytes end a piece, wherever they stand in it (or its 256th byte does)."""
    return table(1, 1, 256, [0 if byte in bytes_that_end else TOP_BIT for byte in range(256)])


def whole_state():
    """Calls whose answers tell all that can be told of the streams, 41 of them."""
    calls = [KEPT]
    for stream in range(8):
        calls += [size(stream), read(stream), pieces(stream), tail(stream), shared(stream, 0)]
    return calls


def in_parts(stream, some, length):
    return [feed(stream, some[start:start + length]) for start in range(0, len(some), length)]
