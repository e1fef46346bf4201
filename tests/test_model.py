"""Many rows of calls, answered alike by the program and by the document's words taken one by one.

The model keeps each stream's bytes and nothing else, and finds pieces, tail and room from them anew each time.
"""

import random
import unittest

from helper import BEGIN, KEPT, OPEN, ask, close, drop, feed, has, pieces, read, shared, size, table, tail


def row_number(numbers, row):
    total = 0
    for place, byte in enumerate(row):
        total += numbers[byte] * 2 ** (len(row) - 1 - place)
    return total % 2 ** 32


def row_ends(rule, row):
    bits, least, most, numbers = rule
    if len(row) == most:
        return True
    return len(row) >= least and row_number(numbers, row) < 2 ** (32 - bits)


def shortest_piece(rule, some):
    for length in range(1, len(some) + 1):
        if row_ends(rule, some[:length]):
            return length
    return 0


class Model:

    def __init__(self):
        self.begin()

    def begin(self):
        self.rule = (0, 64, 64, [0] * 256)
        self.fed = {}
        self.shut = set()
        self.found = {}
        return [0]

    def cut(self, some):
        """The pieces and the tail; remembered, since the same bytes are asked for often."""
        key = bytes(some)
        if key not in self.found:
            pieces = []
            place = 0
            length = shortest_piece(self.rule, some)
            while length > 0:
                pieces.append(key[place:place + length])
                place += length
                length = shortest_piece(self.rule, some[place:place + 256])
            self.found[key] = (pieces, key[place:])
        return self.found[key]

    def cut_stream(self, stream, some):
        pieces, tail = self.cut(some)
        if stream in self.shut and len(tail) > 0:
            return pieces + [tail], b""
        return pieces, tail

    def room(self, fed):
        different = set()
        taken = 0
        places = 0
        for stream, some in fed.items():
            pieces, tail = self.cut_stream(stream, some)
            different.update(pieces)
            taken += len(tail)
            places += len(pieces) + (len(tail) > 0)
        return (taken + sum(len(piece) for piece in different), places, len(different))

    def has_room(self, fed):
        taken, places, different = self.room(fed)
        return taken <= 4096 and places <= 256

    def table(self, bits, least, most, numbers):
        if len(numbers) != 256 or not 0 <= bits <= 16 or not 1 <= least <= most <= 256:
            return [-2]
        if self.fed:
            return [-6]
        self.rule = (bits, least, most, numbers)
        self.found = {}
        return [0]

    def open(self):
        for stream in range(8):
            if stream not in self.fed:
                self.fed[stream] = []
                return [0, stream]
        return [-4]

    def feed(self, stream, some):
        if stream not in self.fed or stream in self.shut or any(number > 255 for number in some):
            return [-1]
        if len(self.fed[stream]) + len(some) > 2048:
            return [-3]
        behind = dict(self.fed)
        behind[stream] = self.fed[stream] + some
        if not self.has_room(behind):
            return [-5]
        self.fed = behind
        return [0]

    def close(self, stream):
        if stream not in self.fed or stream in self.shut:
            return [-1]
        self.shut.add(stream)
        return [0]

    def drop(self, stream):
        if stream not in self.fed:
            return [-1]
        self.fed.pop(stream)
        self.shut.discard(stream)
        return [0]

    def size(self, stream):
        if stream not in self.fed:
            return [-1]
        return [0, len(self.fed[stream]), int(stream in self.shut)]

    def read(self, stream, start, cap):
        if stream not in self.fed:
            return [-1]
        return [0] + [byte for place, byte in enumerate(self.fed[stream]) if start <= place < start + cap]

    def pieces(self, stream):
        if stream not in self.fed:
            return [-1]
        return [0] + [len(piece) for piece in self.cut_stream(stream, self.fed[stream])[0]]

    def tail(self, stream):
        if stream not in self.fed:
            return [-1]
        return [0] + list(self.cut_stream(stream, self.fed[stream])[1])

    def has(self, some):
        for stream, fed in self.fed.items():
            for piece in self.cut_stream(stream, fed)[0]:
                if list(piece) == some:
                    return [0, 1]
        return [0, 0]

    def shared(self, stream, other):
        if stream not in self.fed or other not in self.fed:
            return [-1]
        total = 0
        for piece in self.cut_stream(stream, self.fed[stream])[0]:
            if piece in self.cut_stream(other, self.fed[other])[0]:
                total += len(piece)
        return [0, total]

    def kept(self):
        return [0] + list(self.room(self.fed))


WRITTEN = {"begin": lambda: BEGIN, "open": lambda: OPEN, "table": table, "feed": feed, "close": close,
           "drop": drop, "size": size, "read": read, "pieces": pieces, "tail": tail, "has": has, "shared": shared,
           "kept": lambda: KEPT}
# How often each is drawn.
WEIGHTS = {"begin": 1, "table": 2, "open": 12, "feed": 40, "close": 6, "drop": 5, "size": 3, "read": 8, "pieces": 6,
           "tail": 6, "has": 10, "shared": 8, "kept": 8}
# What can be told of the streams, each once.
ALL_ASKED = [("kept",)] + [(name, stream) for name in ("size", "pieces", "tail") for stream in range(8)]
ALL_ASKED += [("read", stream, 0, 1000000) for stream in range(8)]


class Source:
    """Rows of calls drawn from a seed, so that each run draws the same."""

    def __init__(self, seed):
        self.chance = random.Random(seed)
        self.sorts = self.chance.choice((2, 3, 256))
        self.stock = self.row(2048)

    def rule(self):
        chance = self.chance
        bits = chance.choice((0, 1, 2, 3, 4, 5, 6, 8, 16))
        least = chance.choice((1, 2, 3, 8, 16, 40, 64, 100, 256))
        most = chance.choice((least, min(256, least + 1), min(256, 2 * least), 256))
        numbers = [chance.randrange(2 ** 32) for byte in range(256)]
        if chance.random() < 0.1:
            bits, least, most = chance.choice(((17, 8, 8), (0, 0, 8), (3, 9, 8), (3, 9, 257)))
        if chance.random() < 0.05:
            numbers = numbers[:chance.randrange(256)]
        return ("table", bits, least, most, numbers)

    def row(self, length):
        return [self.chance.randrange(self.sorts) for place in range(length)]

    def some(self):
        chance = self.chance
        length = chance.choice((0, 1, 2, 7, 64, 100, 300, 700, 1000, 2048))
        if chance.random() < 0.6:
            start = chance.choice((0, 0, 1, 64, 100, 500))
            some = self.stock[start:start + length]
        else:
            some = self.row(length)
        if some and chance.random() < 0.05:
            some[chance.randrange(len(some))] = chance.choice((256, 4294967295))
        return some

    def stream(self):
        return self.chance.choice((0, 0, 0, 1, 1, 1, 2, 2, 3, 4, 5, 6, 7, 8, 1000000))

    def row_of(self, model):
        """A piece of some stream or its tail, at times one number off; or any row."""
        chance = self.chance
        rows = []
        for stream, fed in model.fed.items():
            pieces, tail = model.cut_stream(stream, fed)
            rows += pieces + [tail]
        if not rows or chance.random() < 0.1:
            return self.some()
        row = list(chance.choice(rows))
        if row and chance.random() < 0.3:
            row[chance.randrange(len(row))] += chance.choice((1, 256, 4294967040))
        elif chance.random() < 0.1:
            row = row[1:]
        return row

    def read(self):
        chance = self.chance
        start = chance.choice((0, 0, 1, 63, 64, 100, 700, 2048, 1000000, chance.randrange(2100)))
        cap = chance.choice((0, 1, 64, 100, 2048, 1000000, 1000000, chance.randrange(2100)))
        return ("read", self.stream(), start, cap)

    def call(self, model):
        name = self.chance.choices(list(WEIGHTS), list(WEIGHTS.values()))[0]
        if name == "table":
            return self.rule()
        if name == "feed":
            return (name, self.stream(), self.some())
        if name == "read":
            return self.read()
        if name == "has":
            return (name, self.row_of(model))
        if name == "shared":
            return (name, self.stream(), self.stream())
        if name in ("close", "drop", "size", "pieces", "tail"):
            return (name, self.stream())
        return (name,)

    def calls(self, count):
        """So many calls, or as many as a list may have, and what the model answers."""
        model = Model()
        drawn = [self.rule(), ("open",), ("open",)]
        told = asked_of_model(model, drawn)
        numbers = 300
        while len(drawn) < count:
            call = self.call(model)
            numbers += 5 + sum(len(part) for part in call[1:] if isinstance(part, list))
            # What is asked behind them all has its share too.
            if numbers > 30900:
                break
            drawn.append(call)
            told += asked_of_model(model, [call])
        return drawn, told, model

    def calls_that_leave_some_room(self):
        """Stream 3 is open and empty behind them."""
        drawn = [self.rule()] + [("open",)] * 4
        drawn += [("feed", stream, self.row(1200)) for stream in range(3)]
        return drawn + [self.chance.choice((("close", 0), ("drop", 1), ("size", 2)))]


def longest_taken(model, stream, some):
    """A length that there is room for, where there is none for one byte more; or that of all of some."""
    taken = 0
    refused = len(some) + 1
    while refused - taken > 1:
        middle = (taken + refused) // 2
        if model.has_room({**model.fed, stream: some[:middle]}):
            taken = middle
        else:
            refused = middle
    return taken


def asked_of_model(model, drawn):
    return [getattr(model, call[0])(*call[1:]) for call in drawn]


def asked_of_program(drawn):
    return ask(*[WRITTEN[call[0]](*call[1:]) for call in drawn])


def sort_of_answer(answer):
    """The refusal's number; or 0 where only noughts are told, 1 where more is."""
    return answer[0] if answer[0] < 0 else int(any(answer))


class LikeTheModel(unittest.TestCase):

    def test_drawn_rows_of_calls(self):
        seen = {}
        for seed in range(200):
            drawn, told, model = Source(seed).calls(60)
            self.assertEqual(asked_of_program(drawn), told, seed)
            for call, answer in zip(drawn, told):
                key = (call[0], sort_of_answer(answer))
                seen[key] = seen.get(key, 0) + 1
        self.every_answer_is_among_them(seen)

    def test_all_that_can_be_told_behind_drawn_rows_of_calls(self):
        for seed in range(1000, 1150):
            drawn, told, model = Source(seed).calls(60 - len(ALL_ASKED))
            self.assertEqual(asked_of_program(drawn + ALL_ASKED), told + asked_of_model(model, ALL_ASKED), seed)

    def test_all_pairs_of_streams_behind_drawn_rows_of_calls(self):
        asked = [("shared", stream, other) for stream in range(6) for other in range(6)]
        for seed in range(2000, 2100):
            drawn, told, model = Source(seed).calls(60 - len(asked))
            self.assertEqual(asked_of_program(drawn + asked), told + asked_of_model(model, asked), seed)

    def test_feeds_that_fill_room_to_the_byte(self):
        edges = {"bytes": 0, "places": 0}
        for seed in range(60):
            source = Source(seed)
            drawn = source.calls_that_leave_some_room()
            model = Model()
            asked_of_model(model, drawn)
            some = source.row(2048)
            length = longest_taken(model, 3, some)
            if length < len(some):
                just = asked_of_program(drawn + [("feed", 3, some[:length]), ("size", 3), ("kept",)])
                kept = model.room({**model.fed, 3: some[:length]})
                self.assertEqual(just[-3:], [[0], [0, length, 0], [0] + list(kept)], seed)
                over = asked_of_program(drawn + [("feed", 3, some[:length + 1]), ("size", 3), ("kept",)])
                self.assertEqual(over[-3:], [[-5], [0, 0, 0], model.kept()], seed)
                places = model.room({**model.fed, 3: some[:length + 1]})[1]
                edges["places" if places > 256 else "bytes"] += 1
        self.assertGreater(min(edges.values()), 5)

    def every_answer_is_among_them(self, seen):
        told = {"begin": (0,), "table": (0, -2, -6), "open": (1, -4), "feed": (0, -1, -3, -5), "close": (0, -1),
                "drop": (0, -1), "size": (0, 1, -1), "read": (0, 1, -1), "pieces": (0, 1, -1), "tail": (0, 1, -1),
                "has": (0, 1), "shared": (0, 1, -1), "kept": (0, 1)}
        for name, numbers in told.items():
            for number in numbers:
                self.assertGreater(seen.get((name, number), 0), 5, (name, number))


if __name__ == "__main__":
    unittest.main()
