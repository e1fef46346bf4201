"""A stream's pieces and tail, and the room that streams take together."""

from cutstreams.cutting import cut

MOST_ROOM = 4096
MOST_PLACES = 256


# A stream is never changed, only replaced by another: so what is refused leaves no trace.
class Stream:

    def __init__(self, pieces, tail, closed):
        self.pieces = pieces
        self.tail = tail
        self.closed = closed


def new_stream():
    return Stream([], (), False)


# The tail is cut again together with what comes behind it, so that a part's end is not seen.
def fed_stream(stream, rule, some):
    rows = cut(rule, list(stream.tail) + some)
    return Stream(stream.pieces + rows[:-1], rows[-1], False)


def closed_stream(stream):
    if len(stream.tail) == 0:
        return Stream(stream.pieces, (), True)
    return Stream(stream.pieces + [stream.tail], (), True)


def count_bytes(stream):
    return sum([len(piece) for piece in stream.pieces]) + len(stream.tail)


def bytes_of(stream):
    some = []
    for piece in stream.pieces:
        some.extend(piece)
    some.extend(stream.tail)
    return some


# The whole bytes of a piece are the key: two pieces may have the same number and length.
def different_pieces(streams):
    different = {}
    for stream in streams:
        for piece in stream.pieces:
            different[piece] = True
    return different


def count_shared(stream, other):
    of_other = different_pieces([other])
    return sum([len(piece) for piece in stream.pieces if piece in of_other])


def room_taken(streams):
    in_pieces = sum([len(piece) for piece in different_pieces(streams)])
    in_tails = sum([len(stream.tail) for stream in streams])
    return in_pieces + in_tails


def places_taken(streams):
    for_pieces = sum([len(stream.pieces) for stream in streams])
    for_tails = len([stream for stream in streams if len(stream.tail) > 0])
    return for_pieces + for_tails


def has_room(streams):
    return room_taken(streams) <= MOST_ROOM and places_taken(streams) <= MOST_PLACES
