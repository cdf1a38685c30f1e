"""pads: how many frames and instructions there are then, and what is refused."""

import unittest

from tests.calling import GO, A_IS_N, JUMP, PUT_A
from tests.calling import ask, back, begin, last, pads, program, step, stop, watch

LOOP = begin(JUMP, 0)


class Counted(unittest.TestCase):
    def test_one_list(self):
        self.assertEqual(last(begin(A_IS_N, 1), pads(7)), [1, 2])
        self.assertEqual(last(begin(A_IS_N, 1), pads(7, 8, 9)), [3, 4])
        self.assertEqual(last(LOOP, pads(0, 255)), [2, 600])

    def test_empty_list(self):
        self.assertEqual(ask(LOOP, pads(), pads(1), pads()), [[0], [0, 0], [1, 300], [1, 300]])

    def test_one_behind_another(self):
        self.assertEqual(ask(begin(), pads(1), pads(2, 3), pads(4)), [[0], [1, 1], [3, 3], [4, 4]])

    def test_several_calls_are_as_one(self):
        # At place 126 the pad is the second byte: each frame jumps where its pad says.
        cells = program({0: [JUMP, 126], 126: [JUMP], 12: [JUMP, 126], 22: [JUMP, 126]})
        asked = [step(1)] * 12
        apart = ask(begin(*cells), pads(10), pads(), pads(20, 30), *asked)
        self.assertEqual(ask(begin(*cells), pads(10, 20, 30), *asked)[1:], apart[3:])
        self.assertEqual(apart[3], [3, 9])
        self.assertEqual(apart[11], [1, 8, 2, 2, 30])

    def test_exactly_20_frames(self):
        self.assertEqual(last(LOOP, pads(*[1] * 20)), [20, 6000])
        self.assertEqual(ask(begin(), pads(*[1] * 19), pads(2), pads()), [[0], [19, 19], [20, 20], [20, 20]])


class Refused(unittest.TestCase):
    def test_beyond_20_frames(self):
        self.assertEqual(ask(pads(*[1] * 21)), [[-5]])
        self.assertEqual(ask(pads(*[1] * 200)), [[-5]])
        self.assertEqual(ask(pads(*[1] * 20), pads(1), pads()), [[20, 20], [-5], [20, 20]])
        self.assertEqual(ask(pads(*[1] * 15), pads(*[1] * 6), pads(*[1] * 5)), [[15, 15], [-5], [20, 20]])

    def test_a_pad_that_is_no_byte(self):
        for wrong in (-1, 256, -1000000, 1000000):
            for row in ([wrong], [0, wrong], [wrong, 255], [0, 255, wrong, 0]):
                self.assertEqual(ask(pads(*row), pads(0, 255)), [[-1], [2, 2]])

    def test_where_both_are_due(self):
        self.assertEqual(ask(pads(*[256] * 21)), [[-1]])
        self.assertEqual(ask(pads(*[0] * 20, -1)), [[-1]])
        self.assertEqual(ask(pads(*[0] * 20), pads(256)), [[20, 20], [-1]])

    def test_nothing_has_changed(self):
        told = [LOOP, pads(1, 2), stop(2), watch(20), step(305)]
        asked = [step(0), stop(2), watch(20), back(3), GO, pads(3), step(1000)]
        plain = ask(*told, *asked)
        for wrong, number in ((pads(*[0] * 19), -5), (pads(0, 256), -1), (pads(-1), -1)):
            self.assertEqual(ask(*told, wrong, *asked), plain[:5] + [[number]] + plain[5:])


class Now(unittest.TestCase):
    def test_told_at_the_end(self):
        # What was the end is then ahead of the new frame's first instruction.
        self.assertEqual(ask(begin(A_IS_N, 1), pads(5), step(9), pads(6), step(0), step(9), back(1)), [
            [0], [1, 2], [2, 2, 1, 0, 4], [2, 3], [0, 2, 1, 0, 4], [1, 3, 2, 0, 6], [1, 2, 1, 0, 4]])

    def test_told_at_the_end_of_a_run_with_no_frames(self):
        self.assertEqual(ask(begin(A_IS_N, 1), step(1), pads(5), step(0), step(9)), [
            [0], [0, 0, 0, 0, 0], [1, 2], [0, 0, 0, 0, 0], [2, 2, 1, 0, 4]])

    def test_told_while_not_at_the_end(self):
        self.assertEqual(ask(begin(A_IS_N, 1), pads(5), step(1), pads(6), step(0), step(9)), [
            [0], [1, 2], [1, 1, 0, 1, 2], [2, 3], [0, 1, 0, 1, 2], [2, 3, 2, 0, 6]])

    def test_empty_list_at_the_end(self):
        self.assertEqual(ask(pads(5), step(9), pads(), step(1)), [[1, 1], [1, 1, 1, 0, 2], [1, 1], [0, 1, 1, 0, 2]])

    def test_stops_and_watches_stay(self):
        told = [begin(A_IS_N, 1, PUT_A, 20), stop(4), watch(20), pads(5)]
        self.assertEqual(ask(*told, GO, pads(6), stop(4), watch(20))[4:], [[1, 2, 0, 2, 4], [2, 4], [1], [1]])


if __name__ == "__main__":
    unittest.main()
