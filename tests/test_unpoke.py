"""unpoke: the last change as it was told is gone, it goes to where that was, and the run is as before."""

import unittest

from backwardrun import calls
from backwardrun.session import Session
from tests.calling import BUSY, GO, JUMP, REST, REWIND, STATE, UNPOKE, WHERE
from tests.calling import ask, back, begin, bytes_at, last, pads, poke, step, stop, to, watch, wrote

JUMPS = [begin(JUMP, 2, JUMP, 0), pads(11, 22)]


class TheLastTold(unittest.TestCase):
    def test_not_the_last_along_the_run(self):
        told = [*JUMPS, to(50), poke(60, 1), to(80), poke(60, 3), to(20), poke(60, 2)]
        self.assertEqual(bytes_at([*told, UNPOKE], 60, (19, 20, 49, 50, 79, 80)), [0, 0, 0, 1, 1, 3])
        self.assertEqual(bytes_at([*told, UNPOKE, UNPOKE], 60, (19, 20, 49, 50, 79, 80)), [0, 0, 0, 1, 1, 1])
        self.assertEqual(bytes_at([*told, UNPOKE, UNPOKE, UNPOKE], 60, (50, 80, 600)), [0, 0, 0])

    def test_ahead_of_the_same_instruction(self):
        told = [*JUMPS, to(50), poke(60, 1), poke(61, 5), poke(60, 2)]
        self.assertEqual(bytes_at(told, 60, (50,)), [2])
        self.assertEqual(bytes_at([*told, UNPOKE], 60, (50,)), [1])
        self.assertEqual(bytes_at([*told, UNPOKE], 61, (50,)), [5])
        self.assertEqual(bytes_at([*told, UNPOKE, UNPOKE], 61, (50,)), [0])

    def test_the_pad_is_there_again(self):
        told = [*JUMPS, to(300), poke(127, 5)]
        self.assertEqual(bytes_at(told, 127, (299, 300)), [11, 5])
        self.assertEqual(bytes_at([*told, UNPOKE], 127, (299, 300)), [11, 22])


class WhereItIsThen(unittest.TestCase):
    def test_where_that_was(self):
        for n, where in ((0, [0, 0, 0, 0]), (1, [1, 0, 1, 2]), (299, [299, 0, 299, 2]), (300, [300, 1, 0, 0]),
                         (599, [599, 1, 299, 2]), (600, [600, 2, 0, 0])):
            for far in (0, 50, 300, 301, 600):
                self.assertEqual(ask(*JUMPS, to(n), poke(60, 1), to(far), UNPOKE, WHERE)[-2:], [where, where + [600]])

    def test_each_its_own(self):
        told = [*JUMPS, to(50), poke(60, 1), to(80), poke(60, 3), to(20), poke(60, 2), to(400)]
        self.assertEqual(ask(*told, UNPOKE, UNPOKE, UNPOKE, UNPOKE)[-4:], [
            [20, 0, 20, 0], [80, 0, 80, 0], [50, 0, 50, 0], [-7]])

    def test_the_run_is_longer_again(self):
        self.assertEqual(ask(begin(JUMP, 0), pads(1), to(10), poke(0, REST), step(9), UNPOKE, WHERE, GO)[4:], [
            [1, 11, 1, 0, 2], [10, 0, 10, 0], [10, 0, 10, 0, 300], [0, 300, 1, 0, 0]])

    def test_the_run_is_shorter_again_and_now_was_beyond_its_end(self):
        self.assertEqual(ask(pads(1), poke(0, JUMP), to(250), UNPOKE, WHERE, GO)[2:], [
            [250, 0, 250, 0], [0, 0, 0, 0], [0, 0, 0, 0, 1], [0, 1, 1, 0, 2]])
        told = [pads(1), step(1), poke(2, JUMP), poke(3, 2), pads(1), to(301)]
        self.assertEqual(ask(*told, UNPOKE, UNPOKE, WHERE)[5:], [
            [301, 2, 0, 2], [1, 1, 0, 2], [1, 1, 0, 2], [1, 1, 0, 2, 2]])

    def test_told_at_the_end(self):
        self.assertEqual(ask(*JUMPS, to(600), poke(60, 1), to(3), UNPOKE)[-1], [600, 2, 0, 0])

    def test_told_at_the_end_and_more_pads_since(self):
        self.assertEqual(ask(*JUMPS, to(600), poke(60, 1), pads(33), to(3), UNPOKE, WHERE)[-2:], [
            [600, 2, 0, 0], [600, 2, 0, 0, 900]])

    def test_to_the_end_if_the_run_is_shorter(self):
        # As changes are told and taken back by turns no calls lead there, so the session is set so by hand.
        session = Session()
        session.add_pads([1, 2])
        session.changes.append((900, 60, 1))
        self.assertEqual(calls.unpoke(session, []), [2, 2, 0, 4])
        self.assertEqual(session.now, 2)


class AsBefore(unittest.TestCase):
    CHANGES = [
        [to(310), poke(70, 7)], [to(5), poke(4, JUMP)], [to(8), poke(127, 3), poke(0, REST)], [to(1), poke(61, 1)]]

    def asked(self, told):
        spots = [call for n in (0, 4, 5, 9, 20) for call in (to(n), STATE, wrote(60), wrote(61))]
        return ask(*told, *spots, step(1000), WHERE, STATE)[len(told):]

    def test_the_whole_run(self):
        told = [*BUSY]
        for change in self.CHANGES:
            hands = len([call for call in change if call[0] == 12])
            self.assertNotEqual(self.asked([*told, *change]), self.asked(told))
            self.assertEqual(self.asked([*told, *change, *[UNPOKE] * hands]), self.asked(told))
            told = [*told, *change]

    def test_one_behind_another_until_none_is(self):
        told = [*BUSY, *[call for change in self.CHANGES for call in change]]
        self.assertEqual(self.asked([*told, *[UNPOKE] * 6]), self.asked(BUSY))
        self.assertEqual([len(answer) for answer in ask(*told, *[UNPOKE] * 7)[-7:]], [4] * 5 + [1, 1])
        self.assertEqual(ask(*told, *[UNPOKE] * 7)[-2:], [[-7], [-7]])

    def test_changed_again(self):
        self.assertEqual(ask(*JUMPS, to(9), poke(60, 1), UNPOKE, poke(60, 2), poke(60, 3), UNPOKE, poke(60, 4))[3:], [
            [1, 600], [9, 0, 9, 2], [1, 600], [2, 600], [9, 0, 9, 2], [2, 600]])

    def test_20_of_them(self):
        told = [call for n in range(20) for call in (to(7 * n), poke(60, n + 1))]
        answered = ask(*JUMPS[:1], pads(1), *told, *[UNPOKE] * 17)[-17:]
        self.assertEqual([answer[0] for answer in answered], [7 * n for n in range(19, 2, -1)])

    def test_stops_watches_and_pads_stay(self):
        told = [*JUMPS, poke(60, 1), stop(2), watch(60), pads(33), UNPOKE]
        self.assertEqual(ask(*told, stop(2), watch(60), pads(), GO)[-4:], [[1], [1], [3, 900], [1, 1, 0, 1, 2]])


class Refused(unittest.TestCase):
    def test_none_is_changed(self):
        self.assertEqual(ask(UNPOKE, UNPOKE), [[-7], [-7]])
        self.assertEqual(ask(*JUMPS, poke(-1, 0), UNPOKE)[-1], [-7])
        self.assertEqual(ask(*JUMPS, poke(60, 0), begin(), UNPOKE)[-1], [-7])

    def test_nothing_has_changed(self):
        told = [*BUSY, stop(20), watch(61), to(310)]
        asked = [WHERE, STATE, wrote(60), stop(20), watch(61), GO, REWIND, back(3), step(1), poke(60, 1)]
        plain = ask(*told, *asked)
        self.assertEqual(ask(*told, UNPOKE, *asked), plain[:5] + [[-7]] + plain[5:])

    def test_a_refusal_leaves_the_next_poke_its_place(self):
        self.assertEqual(last(*JUMPS, to(9), UNPOKE, poke(60, 1)), [1, 600])


if __name__ == "__main__":
    unittest.main()
