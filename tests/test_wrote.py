"""wrote: the last instruction ahead of now that put a byte at a place, what was there and what it put."""

import unittest

from tests.calling import BUSY, STATE, UNPOKE, WHERE, ADD_TO_X, A_IS_N, JUMP, JUMP_NOT_Z, PUT_A
from tests.calling import PUT_A_X, REST, X_IS_N, ask, back, begin, byte_in, last, pads, poke, program, step, to, wrote

# Puts 5 at place 60 as instruction 1, 6 as instruction 3.
TWICE = [begin(A_IS_N, 5, PUT_A, 60, A_IS_N, 6, PUT_A, 60), pads(1)]


def at_each(told, place, numbers):
    """What wrote answers of the place ahead of each of these."""
    return ask(*told, *[call for n in numbers for call in (to(n), wrote(place))])[len(told) + 1::2]


class Last(unittest.TestCase):
    def test_of_several(self):
        self.assertEqual(at_each(TWICE, 60, range(6)), [
            [0], [0], [1, 1, 0, 2, 0, 5], [1, 1, 0, 2, 0, 5], [1, 3, 0, 6, 5, 6], [1, 3, 0, 6, 5, 6]])

    def test_the_one_just_ahead_of_now_counts_the_one_at_now_does_not_yet(self):
        self.assertEqual(at_each(TWICE, 60, (1, 2)), [[0], [1, 1, 0, 2, 0, 5]])
        self.assertEqual(at_each(TWICE, 60, (3, 4)), [[1, 1, 0, 2, 0, 5], [1, 3, 0, 6, 5, 6]])

    def test_behind_back_it_is_the_earlier_one_again(self):
        moves = [step(9), back(1), back(1), back(2)]
        self.assertEqual(ask(*TWICE, *[call for move in moves for call in (move, wrote(60))])[3::2], [
            [1, 3, 0, 6, 5, 6], [1, 3, 0, 6, 5, 6], [1, 1, 0, 2, 0, 5], [0]])

    def test_none_did(self):
        self.assertEqual(ask(*TWICE, step(9), wrote(61), wrote(0), wrote(2), wrote(6), wrote(127))[3:], [[0]] * 5)

    def test_at_the_beginning(self):
        self.assertEqual(ask(wrote(0), wrote(127)), [[0], [0]])
        self.assertEqual(ask(*BUSY, wrote(60), wrote(127))[2:], [[0], [0]])

    def test_with_the_very_first_instruction(self):
        self.assertEqual(at_each([begin(PUT_A, 0), pads(1)], 0, (0, 1, 2)), [
            [0], [1, 0, 0, 0, PUT_A, 0], [1, 0, 0, 0, PUT_A, 0]])

    def test_a_write_of_the_same_value(self):
        told = [begin(A_IS_N, 5, PUT_A, 60, PUT_A, 60, PUT_A, 61), pads(1)]
        self.assertEqual(at_each(told, 60, (2, 3, 4)), [[1, 1, 0, 2, 0, 5], [1, 2, 0, 4, 5, 5], [1, 2, 0, 4, 5, 5]])

    def test_by_n_and_x(self):
        told = [begin(X_IS_N, 100, A_IS_N, 9, PUT_A_X, 90), pads(1), step(3)]
        self.assertEqual(ask(*told, wrote(62), wrote(90), wrote(100))[3:], [[1, 2, 0, 4, 0, 9], [0], [0]])

    def test_places_modulo_128(self):
        self.assertEqual(last(begin(A_IS_N, 9, PUT_A, 188), pads(1), step(2), wrote(60)), [1, 1, 0, 2, 0, 9])

    def test_reading_is_no_write(self):
        cells = [2, 60, 4, 60, 8, 60, 9, 60, 10, 60, 11, 60, 6, 60, 7, 60]
        self.assertEqual(last(begin(*cells), pads(1), step(9), wrote(60)), [0])

    def test_its_frame(self):
        told = [begin(REST, 0, A_IS_N, 9, PUT_A, 60, REST, 0, REST, 0), pads(1, 2, 3)]
        self.assertEqual(at_each(told, 60, (2, 3, 4, 5)), [[0]] + [[1, 2, 1, 4, 0, 9]] * 3)

    def test_of_an_earlier_frame(self):
        told = [begin(PUT_A, 60, JUMP, 2), pads(*[1] * 20), step(6000)]
        self.assertEqual(last(*told, wrote(60)), [1, 0, 0, 0, 0, 0])

    def test_its_place_where_it_writes_over_itself(self):
        # The instruction at 2 puts a rest at its own place: it's told as it stood.
        self.assertEqual(last(begin(A_IS_N, 16, PUT_A, 2), pads(1), step(2), wrote(2)), [1, 1, 0, 2, PUT_A, 16])

    def test_does_not_move(self):
        self.assertEqual(ask(*TWICE, to(4), wrote(60), WHERE)[-1], [4, 0, 4, 8, 5])

    def test_agrees_with_state(self):
        for n in (1, 3, 4, 50, 299, 300, 301, 302, 303, 304, 777, 900):
            for place in (21, 60, 61):
                answer = last(*BUSY, to(n), wrote(place))
                if answer == [0]:
                    continue
                number = answer[1]
                self.assertLess(number, n)
                before, behind, now = ask(*BUSY, to(number), STATE, to(number + 1), STATE, to(n), STATE)[3::2]
                where = last(*BUSY, to(number), WHERE)
                self.assertEqual(answer[2:4], [where[1], where[3]])
                self.assertEqual(answer[4:], [byte_in(before, place), byte_in(behind, place)])
                self.assertEqual(byte_in(now, place), answer[5])


class Pads(unittest.TestCase):
    def test_no_instructions(self):
        self.assertEqual(at_each([pads(1, 2, 3)], 127, (0, 1, 2, 3)), [[0]] * 4)

    def test_what_the_byte_was(self):
        # Frame 0 puts 5 at 127; frame 1 puts it there again, over its pad.
        told = [begin(A_IS_N, 5, PUT_A, 127, REST, 0, PUT_A, 127), pads(70, 80)]
        self.assertEqual(at_each(told, 127, (1, 2, 3, 4, 5)), [
            [0], [1, 1, 0, 2, 70, 5], [1, 1, 0, 2, 70, 5], [1, 3, 1, 6, 80, 5], [1, 3, 1, 6, 80, 5]])

    def test_a_pad_straight_behind_the_write(self):
        # The 300th instruction puts 5 at 127; then the next frame's pad is put.
        cells = [A_IS_N, 5, X_IS_N, 0, X_IS_N, 256 - 148, ADD_TO_X, 1, JUMP_NOT_Z, 6, PUT_A, 127, JUMP, 12]
        answered = ask(begin(*cells), pads(70, 80), to(300), STATE, wrote(127))
        self.assertEqual(byte_in(answered[3], 127), 80)
        self.assertEqual(answered[4], [1, 299, 0, 10, 70, 5])


class Hands(unittest.TestCase):
    def test_no_instructions(self):
        self.assertEqual(at_each([*TWICE, to(1), poke(70, 9)], 70, (0, 1, 2, 4, 5)), [[0]] * 5)
        self.assertEqual(ask(*TWICE, to(5), poke(60, 9), wrote(60))[-1], [1, 3, 0, 6, 5, 6])

    def test_what_the_byte_was(self):
        # Changed ahead of the very write, and one further ahead.
        for n in (2, 3):
            self.assertEqual(ask(*TWICE, to(n), poke(60, 99), to(4), wrote(60))[-1], [1, 3, 0, 6, 99, 6])

    def test_several_ahead_of_it(self):
        told = [*TWICE, to(3), poke(60, 98), poke(60, 99)]
        self.assertEqual(ask(*told, to(4), wrote(60), UNPOKE, to(4), wrote(60))[6::3], [
            [1, 3, 0, 6, 99, 6], [1, 3, 0, 6, 98, 6]])

    def test_a_hand_straight_behind_the_write(self):
        answered = ask(*TWICE, to(4), poke(60, 99), wrote(60), STATE)
        self.assertEqual(answered[4], [1, 3, 0, 6, 5, 6])
        self.assertEqual(byte_in(answered[5], 60), 99)

    def test_what_it_put_follows(self):
        self.assertEqual(ask(*TWICE, to(2), poke(5, 44), to(4), wrote(60))[-1], [1, 3, 0, 6, 5, 44])

    def test_a_write_that_is_none_any_more_and_is_again(self):
        told = [*TWICE, to(3), poke(6, REST)]
        self.assertEqual(ask(*told, step(9), wrote(60), UNPOKE, step(9), wrote(60))[5::3], [
            [1, 1, 0, 2, 0, 5], [1, 3, 0, 6, 5, 6]])

    def test_a_write_to_another_place(self):
        told = [*TWICE, to(3), poke(7, 61), step(9)]
        self.assertEqual(ask(*told, wrote(60), wrote(61))[5:], [[1, 1, 0, 2, 0, 5], [1, 3, 0, 6, 0, 6]])


class Refused(unittest.TestCase):
    def test_a_place_that_is_none(self):
        for place in (-1, 128, 188, 255, -68, -1000000, 1000000):
            self.assertEqual(ask(*TWICE, to(4), wrote(place), WHERE)[3:], [[-1], [4, 0, 4, 8, 5]])
            self.assertEqual(ask(wrote(place)), [[-1]])

    def test_the_first_and_the_last_place(self):
        cells = program({0: [A_IS_N, 9, PUT_A, 0, PUT_A, 127]})
        self.assertEqual(ask(begin(*cells), pads(3), step(3), wrote(0), wrote(127))[3:], [
            [1, 1, 0, 2, A_IS_N, 9], [1, 2, 0, 4, 3, 9]])


if __name__ == "__main__":
    unittest.main()
