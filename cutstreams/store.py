"""The streams that are kept under one rule, and what each call answers."""

from cutstreams.cutting import first_rule, is_rule, Rule
from cutstreams.streams import bytes_of, closed_stream, count_bytes, count_shared, different_pieces, fed_stream
from cutstreams.streams import has_room, new_stream, places_taken, room_taken

STREAM_COUNT = 8
MOST_BYTES = 2048
LARGEST_BYTE = 255

NO_SUCH_STREAM = -1
NO_RULE = -2
TOO_LONG = -3
NONE_FREE = -4
NO_ROOM = -5
NOT_ALL_FREE = -6


def are_bytes(some):
    return all([number <= LARGEST_BYTE for number in some])


def without_free(streams):
    return [stream for stream in streams if stream is not None]


# In the list of streams, None stands where one is free.
class Store:

    def __init__(self):
        self.rule = first_rule()
        self.streams = [None] * STREAM_COUNT

    def begin(self):
        self.rule = first_rule()
        self.streams = [None] * STREAM_COUNT
        return [0]

    def set_rule(self, bits, least, most, numbers):
        if not is_rule(bits, least, most, numbers):
            return [NO_RULE]
        if len(self.free_numbers()) < STREAM_COUNT:
            return [NOT_ALL_FREE]
        self.rule = Rule(bits, least, most, numbers)
        return [0]

    def start_stream(self):
        free = self.free_numbers()
        if len(free) == 0:
            return [NONE_FREE]
        self.streams = self.streams_with(free[0], new_stream())
        return [0, free[0]]

    def feed(self, number, some):
        if not self.can_grow(number) or not are_bytes(some):
            return [NO_SUCH_STREAM]
        stream = self.streams[number]
        if count_bytes(stream) + len(some) > MOST_BYTES:
            return [TOO_LONG]
        behind = self.streams_with(number, fed_stream(stream, self.rule, some))
        if not has_room(without_free(behind)):
            return [NO_ROOM]
        self.streams = behind
        return [0]

    def close(self, number):
        if not self.can_grow(number):
            return [NO_SUCH_STREAM]
        self.streams = self.streams_with(number, closed_stream(self.streams[number]))
        return [0]

    def drop(self, number):
        if not self.is_taken(number):
            return [NO_SUCH_STREAM]
        self.streams = self.streams_with(number, None)
        return [0]

    def size(self, number):
        if not self.is_taken(number):
            return [NO_SUCH_STREAM]
        stream = self.streams[number]
        return [0, count_bytes(stream), 1 if stream.closed else 0]

    def bytes_from(self, number, start, cap):
        if not self.is_taken(number):
            return [NO_SUCH_STREAM]
        return [0] + bytes_of(self.streams[number])[start:start + cap]

    def piece_lengths(self, number):
        if not self.is_taken(number):
            return [NO_SUCH_STREAM]
        return [0] + [len(piece) for piece in self.streams[number].pieces]

    def tail_bytes(self, number):
        if not self.is_taken(number):
            return [NO_SUCH_STREAM]
        return [0] + list(self.streams[number].tail)

    # Numbers that are no bytes need no refusal here: no piece is like a row with one of them.
    def has_piece(self, some):
        return [0, 1 if tuple(some) in different_pieces(without_free(self.streams)) else 0]

    def shared(self, number, other):
        if not self.is_taken(number) or not self.is_taken(other):
            return [NO_SUCH_STREAM]
        return [0, count_shared(self.streams[number], self.streams[other])]

    def kept(self):
        streams = without_free(self.streams)
        return [0, room_taken(streams), places_taken(streams), len(different_pieces(streams))]

    def is_taken(self, number):
        return number < STREAM_COUNT and self.streams[number] is not None

    def can_grow(self, number):
        return self.is_taken(number) and not self.streams[number].closed

    def free_numbers(self):
        return [number for number in range(STREAM_COUNT) if self.streams[number] is None]

    # A list of its own, so that room can be asked of it before anything is changed.
    def streams_with(self, number, stream):
        streams = list(self.streams)
        streams[number] = stream
        return streams
