"""The program and the model, on many made-up lists of calls; the same ones each time."""

import random
import unittest

from tests.calling import GO, REWIND, STATE, UNPOKE, WHERE
from tests.calling import ask, back, begin, pads, poke, step, stop, to, watch, wrote
from tests.model import Model


def any_bytes(chance):
    return [chance.randrange(256) for place in range(chance.choice((0, 1, 7, 40, 127, 128)))]


def bytes_without_rests(chance):
    """Their frames are long."""
    row = any_bytes(chance)
    row = row + [0] * (128 - len(row))
    return [byte if byte % 16 else byte + chance.randrange(1, 16) for byte in row]


def bytes_with_writes(chance):
    """20 instructions that mostly put bytes, at a few places, among them those where the program stands."""
    row = []
    for each in range(20):
        which = chance.choice((1, 2, 3, 3, 3, 4, 5, 5, 6, 7, 8, 9, 11, 12, 13, 14, 15, 0))
        places = (60, 61, 62, 127, 127, 2 * chance.randrange(20), chance.randrange(40))
        row = row + [which, 2 * chance.randrange(20) if which > 11 else chance.choice(places)]
    return row


def made_up_stop(chance, row):
    return chance.choice((chance.randrange(128), 2 * chance.randrange(10), *(byte % 128 for byte in row[:20])))


def made_up_watch(chance, row):
    """Most often a place that an instruction of the row puts a byte to."""
    put = [row[place + 1] % 128 for place in range(len(row) - 1) if row[place] % 16 in (3, 5)]
    return chance.choice((chance.randrange(128), 127, *put))


def made_up_poke(chance, row):
    """Often where the program stands, often an instruction's first byte; at 127 too."""
    place = chance.choice((chance.randrange(128), 2 * chance.randrange(10), 127, made_up_stop(chance, row)))
    return poke(place, chance.choice((chance.randrange(256), chance.randrange(16), 0, 12)))


WRONG = (
    begin(*[1] * 129), begin(0, 256), pads(0, -1), pads(*[1] * 21), step(-1), back(-1),
    stop(128), stop(-1), stop(5, 2), watch(128), watch(-1), watch(5, -1), to(-1), to(6001),
    wrote(-1), wrote(128), poke(-1, 5), poke(128, 5), poke(5, -1), poke(5, 256))


def made_up_call(chance, row):
    kinds = {
        "pads": lambda: pads(*[chance.randrange(256) for pad in range(chance.randrange(3))]),
        "step": lambda: step(chance.choice((0, 1, 2, 5, 20))),
        "back": lambda: back(chance.choice((0, 1, 2, 5, 20))),
        "stop": lambda: stop(made_up_stop(chance, row), int(chance.randrange(4) > 0)),
        "watch": lambda: watch(made_up_watch(chance, row), int(chance.randrange(4) > 0)),
        "go": lambda: GO,
        "rewind": lambda: REWIND,
        "to": lambda: to(chance.choice((0, 1, 2, 5, chance.randrange(20), 299, 300, 301, chance.randrange(700)))),
        "where": lambda: WHERE,
        "state": lambda: STATE,
        "wrote": lambda: wrote(made_up_watch(chance, row)),
        "poke": lambda: made_up_poke(chance, row),
        "poke too": lambda: made_up_poke(chance, row),
        "unpoke": lambda: UNPOKE,
        "wrong": lambda: chance.choice(WRONG + (begin(*row[:50]),)),
    }
    return kinds[chance.choice(list(kinds))]()


def made_up_calls(chance, made_up_bytes):
    row = made_up_bytes(chance)
    told = [begin(*row), pads(*[chance.randrange(256) for pad in range(chance.randrange(4))])]
    told = told + [watch(made_up_watch(chance, row)) for many in range(3)]
    told = told + [to(chance.choice((0, 5, 290, 299)))]
    if chance.randrange(5) == 0:
        told = told + [made_up_poke(chance, row) for many in range(17)]
    return told + [made_up_call(chance, row) for many in range(60 - len(told))]


class AgainstModel(unittest.TestCase):
    def compare(self, seed, made_up_bytes):
        chance = random.Random(seed)
        for turn in range(100):
            calls = made_up_calls(chance, made_up_bytes)
            model = Model()
            self.assertEqual(ask(*calls), [model.answer(call) for call in calls], calls)

    def test_any_programs(self):
        self.compare(1, any_bytes)

    def test_programs_without_rests(self):
        self.compare(2, bytes_without_rests)

    def test_programs_with_writes(self):
        self.compare(3, bytes_with_writes)


if __name__ == "__main__":
    unittest.main()
