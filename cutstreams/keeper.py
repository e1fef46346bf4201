"""The way in: a list of calls is read, and their answers are given back."""

from cutstreams.store import Store

BEGIN = 1
TABLE = 2
OPEN = 3
FEED = 4
CLOSE = 5
DROP = 6
SIZE = 7
READ = 8
PIECES = 9
TAIL = 10
HAS = 11
SHARED = 12
KEPT = 13


class NoSuchCall(ValueError):
    pass


class Reader:

    def __init__(self, calls):
        self.calls = calls
        self.place = 0

    def at_end(self):
        return self.place >= len(self.calls)

    def take(self):
        number = self.calls[self.place]
        self.place += 1
        return number

    def take_row(self):
        length = self.take()
        row = self.calls[self.place:self.place + length]
        self.place += length
        return row


def answer_table(store, reader):
    bits = reader.take()
    least = reader.take()
    most = reader.take()
    return store.set_rule(bits, least, most, reader.take_row())


def answer_feed(store, reader):
    number = reader.take()
    return store.feed(number, reader.take_row())


def answer_read(store, reader):
    number = reader.take()
    start = reader.take()
    return store.bytes_from(number, start, reader.take())


def answer_shared(store, reader):
    number = reader.take()
    return store.shared(number, reader.take())


def answer_call(store, reader):
    call = reader.take()
    if call == BEGIN:
        return store.begin()
    if call == TABLE:
        return answer_table(store, reader)
    if call == OPEN:
        return store.start_stream()
    if call == FEED:
        return answer_feed(store, reader)
    if call == CLOSE:
        return store.close(reader.take())
    if call == DROP:
        return store.drop(reader.take())
    if call == SIZE:
        return store.size(reader.take())
    if call == READ:
        return answer_read(store, reader)
    if call == PIECES:
        return store.piece_lengths(reader.take())
    if call == TAIL:
        return store.tail_bytes(reader.take())
    if call == HAS:
        return store.has_piece(reader.take_row())
    if call == SHARED:
        return answer_shared(store, reader)
    if call == KEPT:
        return store.kept()
    raise NoSuchCall("no such call")


def answers(calls):
    store = Store()
    reader = Reader(calls)
    given = []
    while not reader.at_end():
        answer = answer_call(store, reader)
        given.append(len(answer))
        given.extend(answer)
    return given
