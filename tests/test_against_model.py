"""The program and the model, on many made-up lists of calls; the same ones each time."""

import random
import unittest

from tests.calling import GO, ask, back, begin, pads, step, stop, watch
from tests.model import Model


def made_up_bytes(chance, rests):
    """Programs of all kinds; without rests their frames are long."""
    row = [chance.randrange(256) for place in range(chance.choice((0, 1, 7, 40, 127, 128)))]
    if not rests:
        row = row + [0] * (128 - len(row))
        row = [byte if byte % 16 else byte + chance.randrange(1, 16) for byte in row]
    return row


def made_up_stop(chance, row):
    return chance.choice((chance.randrange(128), 2 * chance.randrange(10), *(byte % 128 for byte in row[:20])))


def made_up_watch(chance, row):
    """Most often a place that an instruction of the row puts a byte to."""
    put = [row[place + 1] % 128 for place in range(len(row) - 1) if row[place] % 16 in (3, 5)]
    return chance.choice((chance.randrange(128), 127, *put))


def made_up_call(chance, row):
    kind = chance.randrange(14)
    if kind < 2:
        return pads(*[chance.randrange(256) for pad in range(chance.randrange(3))])
    if kind < 5:
        return step(chance.choice((0, 1, 2, 5, 20)))
    if kind < 7:
        return back(chance.choice((0, 1, 2, 5, 20)))
    if kind < 9:
        return stop(made_up_stop(chance, row), int(chance.randrange(4) > 0))
    if kind < 11:
        return watch(made_up_watch(chance, row), int(chance.randrange(4) > 0))
    if kind < 13:
        return GO
    return chance.choice((
        begin(*[1] * 129), begin(0, 256), pads(0, -1), pads(*[1] * 21), step(-1), back(-1), stop(128), stop(-1),
        stop(5, 2), watch(128), watch(-1), watch(5, -1), begin(*row[:50])))


def made_up_calls(chance, rests):
    row = made_up_bytes(chance, rests)
    told = [begin(*row), pads(*[chance.randrange(256) for pad in range(chance.randrange(4))])]
    told = told + [watch(made_up_watch(chance, row)) for many in range(5)]
    if not rests:
        told = told + [step(chance.choice((0, 290, 299)))]
    return told + [made_up_call(chance, row) for many in range(30)]


class AgainstModel(unittest.TestCase):
    def compare(self, seed, rests):
        chance = random.Random(seed)
        for turn in range(150):
            calls = made_up_calls(chance, rests)
            model = Model()
            self.assertEqual(ask(*calls), [model.answer(call) for call in calls], calls)

    def test_programs_with_rests(self):
        self.compare(1, True)

    def test_programs_without_rests(self):
        self.compare(2, False)


if __name__ == "__main__":
    unittest.main()
