"""Frames: where they are over, their pads, what goes on from one into the next, the end of the run."""

import unittest

from tests.calling import A_IS_BYTE, A_IS_N, ADD, ADD_TO_X, JUMP, JUMP_C, JUMP_NOT_Z, JUMP_Z, PUT_A, PUT_A_X, X_IS_N
from tests.calling import GO, REST, TAKE, ask, back, begin, last, pads, program, step, stop, watch


class Over(unittest.TestCase):
    def test_behind_the_first_rest_it_too(self):
        cells = [A_IS_N, 1, A_IS_N, 2, REST, 0, A_IS_N, 3, REST, 0]
        self.assertEqual(ask(begin(*cells), pads(1, 2), step(2), step(1), step(1), step(1)), [
            [0], [2, 5], [2, 2, 0, 2, 4], [1, 3, 1, 0, 6], [1, 4, 1, 1, 8], [1, 5, 2, 0, 10]])

    def test_rest_as_the_first_instruction(self):
        self.assertEqual(ask(begin(REST, 9), pads(1), step(9)), [[0], [1, 1], [1, 1, 1, 0, 2]])

    def test_rest_modulo_16(self):
        self.assertEqual(ask(begin(A_IS_N, 1, 240, 0), pads(1), step(9)), [[0], [1, 2], [2, 2, 1, 0, 4]])

    def test_behind_300_instructions(self):
        self.assertEqual(ask(begin(JUMP, 0), pads(1, 2), step(299), step(1), step(299), step(1)), [
            [0], [2, 600], [299, 299, 0, 299, 0], [1, 300, 1, 0, 0], [299, 599, 1, 299, 0], [1, 600, 2, 0, 0]])

    def test_a_frame_of_300_goes_on_where_it_was(self):
        # The next frame begins in the midst of the loop of three.
        self.assertEqual(ask(begin(JUMP, 2, JUMP, 4, JUMP, 8, REST, 0, JUMP, 2), pads(1, 2), step(300), step(1))[2:], [
            [300, 300, 1, 0, 8], [1, 301, 1, 1, 2]])

    def counted_to_rest(self, times):
        """One instruction, then `times` turns of two, then the rest."""
        return begin(X_IS_N, 256 - times, ADD_TO_X, 1, JUMP_NOT_Z, 2, REST, 0)

    def test_rest_as_the_298th_the_300th_and_too_late(self):
        self.assertEqual(last(self.counted_to_rest(148), pads(1)), [1, 298])
        self.assertEqual(last(self.counted_to_rest(149), pads(1)), [1, 300])
        self.assertEqual(last(self.counted_to_rest(150), pads(1)), [1, 300])
        self.assertEqual(last(self.counted_to_rest(149), pads(1), step(300)), [300, 300, 1, 0, 8])
        self.assertEqual(last(self.counted_to_rest(150), pads(1), step(300)), [300, 300, 1, 0, 4])
        self.assertEqual(last(self.counted_to_rest(150), pads(1, 2)), [2, 302])


class Pad(unittest.TestCase):
    def test_put_at_127_as_each_frame_begins(self):
        # Each frame jumps to where its pad says, rests there, and the next comes back.
        cells = program({0: [JUMP, 126], 126: [JUMP], 12: [JUMP, 126], 22: [JUMP, 126]})
        self.assertEqual(ask(begin(*cells), pads(10, 20, 30), *[step(1)] * 9)[1:], [
            [3, 9],
            [1, 1, 0, 1, 126], [1, 2, 0, 2, 10], [1, 3, 1, 0, 12],
            [1, 4, 1, 1, 126], [1, 5, 1, 2, 20], [1, 6, 2, 0, 22],
            [1, 7, 2, 1, 126], [1, 8, 2, 2, 30], [1, 9, 3, 0, 32]])

    def test_put_over_the_loaded_byte(self):
        cells = program({0: [A_IS_BYTE, 127, PUT_A, 5, JUMP, 0], 127: [99]})
        self.assertEqual(last(begin(*cells), pads(70), step(3)), [3, 3, 0, 3, 70])

    def test_put_ahead_of_the_first_instruction(self):
        # The pad is the second byte of the very first instruction done in frame 1.
        cells = program({0: [JUMP, 124], 124: [REST, 0, JUMP]})
        self.assertEqual(ask(begin(*cells), pads(50, 60), step(2), step(1))[2:], [[2, 2, 1, 0, 126], [1, 3, 1, 1, 60]])

    def test_put_at_the_frame_s_beginning_alone(self):
        # What the program puts at 127 stays there until the next frame begins.
        cells = program({0: [A_IS_N, 40, PUT_A, 127, JUMP, 126], 126: [JUMP]})
        self.assertEqual(last(begin(*cells), pads(50), step(4)), [4, 4, 0, 4, 40])

    def test_put_behind_a_frame_of_300(self):
        # 298 times around, then on to 127 in the next frame.
        cells = program({0: [JUMP, 126], 126: [JUMP]})
        self.assertEqual(ask(begin(*cells), pads(0, 70), step(300), step(1), step(1))[2:], [
            [300, 300, 1, 0, 0], [1, 301, 1, 1, 126], [1, 302, 1, 2, 70]])

    def test_read_by_n_and_x(self):
        cells = [X_IS_N, 100, 4, 27, PUT_A, 7, JUMP, 0]
        self.assertEqual(last(begin(*cells), pads(33), step(4)), [4, 4, 0, 4, 33])


class GoesOn(unittest.TestCase):
    def test_a(self):
        cells = [A_IS_N, 60, REST, 0, PUT_A, 7, JUMP, 0]
        self.assertEqual(last(begin(*cells), pads(1, 2), step(4)), [4, 4, 1, 2, 60])

    def test_x(self):
        cells = [X_IS_N, 30, REST, 0, PUT_A_X, 7]
        self.assertEqual(last(begin(*cells), pads(1, 2), watch(37), GO), [2, 3, 1, 1, 6])

    def test_z(self):
        for value, place in ((0, 50), (1, 6)):
            cells = [A_IS_N, value, REST, 0, JUMP_Z, 50]
            self.assertEqual(last(begin(*cells), pads(1, 2), step(3)), [3, 3, 1, 1, place])

    def test_c(self):
        for byte, place in ((1, 50), (0, 6)):
            cells = program({0: [TAKE, 100, REST, 0, JUMP_C, 50], 100: [byte]})
            self.assertEqual(last(begin(*cells), pads(1, 2), step(3)), [3, 3, 1, 1, place])

    def test_c_of_adding(self):
        for byte, place in ((56, 50), (55, 8)):
            cells = program({0: [A_IS_N, 200, ADD, 100, REST, 0, JUMP_C, 50], 100: [byte]})
            self.assertEqual(last(begin(*cells), pads(1, 2), step(4)), [4, 4, 1, 1, place])

    def test_the_bytes(self):
        cells = [A_IS_N, 60, PUT_A, 7, REST, 0, JUMP, 0]
        self.assertEqual(last(begin(*cells), pads(1, 2), step(4)), [4, 4, 1, 1, 60])

    def test_the_place(self):
        self.assertEqual(last(begin(JUMP, 90), pads(1, 2), step(2)), [2, 2, 1, 0, 92])


class End(unittest.TestCase):
    def test_numbered_as_an_instruction_behind_all(self):
        self.assertEqual(ask(begin(A_IS_N, 1), pads(4, 5, 6), step(4), step(1), back(1))[1:], [
            [3, 4], [4, 4, 3, 0, 8], [0, 4, 3, 0, 8], [1, 3, 2, 0, 6]])

    def test_of_the_longest_run(self):
        self.assertEqual(ask(begin(JUMP, 0), pads(*range(20)), step(1000000), back(1), back(1000000))[1:], [
            [20, 6000], [6000, 6000, 20, 0, 0], [1, 5999, 19, 299, 0], [5999, 0, 0, 0, 0]])

    def test_a_run_with_no_frames(self):
        for told in ([], [begin()], [begin(JUMP, 7)], [pads()]):
            self.assertEqual(ask(*told, step(0), step(5), back(0), back(5), stop(0), watch(0), GO)[len(told):], [
                [0, 0, 0, 0, 0]] * 4 + [[1], [1], [0, 0, 0, 0, 0]])


if __name__ == "__main__":
    unittest.main()
