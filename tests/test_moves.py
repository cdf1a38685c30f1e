"""step and back: how many were done, where it is then, and that back is where it was."""

import unittest

from tests.calling import GO, A_IS_BYTE, A_IS_N, ADD, JUMP, JUMP_C, PUT_A
from tests.calling import ask, back, begin, pads, program, step, stop, watch

# Three frames of two instructions, at places 0, 2, 4, ...
SHORT = [begin(A_IS_N, 1, 0, 0, A_IS_N, 2, 0, 0, A_IS_N, 3), pads(7, 8, 9)]
PLACES = [[0, 0, 0, 0], [1, 0, 1, 2], [2, 1, 0, 4], [3, 1, 1, 6], [4, 2, 0, 8], [5, 2, 1, 10], [6, 3, 0, 12]]


class Step(unittest.TestCase):
    def test_every_n_from_everywhere(self):
        for first in range(7):
            for n in range(9):
                many = min(n, 6 - first)
                self.assertEqual(ask(*SHORT, step(first), step(n))[2:], [
                    [first] + PLACES[first], [many] + PLACES[first + many]])

    def test_n_of_a_million(self):
        self.assertEqual(ask(*SHORT, step(1000000), step(1000000))[2:], [[6] + PLACES[6], [0] + PLACES[6]])

    def test_passes_over_stops_and_watches(self):
        self.assertEqual(ask(*SHORT, stop(4), watch(127), step(5))[-1], [5] + PLACES[5])

    def test_below_0(self):
        for n in (-1, -2, -1000000):
            self.assertEqual(ask(*SHORT, step(3), step(n), step(1))[2:], [[3] + PLACES[3], [-1], [1] + PLACES[4]])


class Back(unittest.TestCase):
    def test_every_n_from_everywhere(self):
        for first in range(7):
            for n in range(9):
                many = min(n, first)
                self.assertEqual(ask(*SHORT, step(first), back(n))[2:], [
                    [first] + PLACES[first], [many] + PLACES[first - many]])

    def test_n_of_a_million(self):
        self.assertEqual(ask(*SHORT, step(5), back(1000000), back(1))[2:], [
            [5] + PLACES[5], [5] + PLACES[0], [0] + PLACES[0]])

    def test_passes_over_stops_and_watches(self):
        self.assertEqual(ask(*SHORT, stop(4), watch(127), step(6), back(5))[-1], [5] + PLACES[1])

    def test_below_0(self):
        for n in (-1, -2, -1000000):
            self.assertEqual(ask(*SHORT, step(3), back(n), back(1))[2:], [[3] + PLACES[3], [-1], [1] + PLACES[2]])


class ThereAndBack(unittest.TestCase):
    # Adds its pad over and over, changes its own bytes, goes another way where c is set; 300 a frame.
    BUSY = [begin(*program({
        0: [A_IS_BYTE, 60, ADD, 127, PUT_A, 60, PUT_A, 21, JUMP_C, 20, JUMP, 0],
        20: [A_IS_N, 5, PUT_A, 61, JUMP, 0]})), pads(37, 101, 3)]

    def test_goes_on_for_three_whole_frames(self):
        self.assertEqual(ask(*self.BUSY)[1], [3, 900])

    def test_back_is_where_it_was(self):
        forth = ask(*self.BUSY, *[step(15)] * 40)[2:]
        spots = [[0, 0, 0, 0]] + [answer[1:] for answer in forth]
        both = ask(*self.BUSY, step(600), *[back(15)] * 40)[2:]
        self.assertEqual([answer[1:] for answer in both], spots[::-1])

    def test_to_and_fro_over_a_frame_s_beginning(self):
        told = [step(297), step(3), step(3), back(3), back(3), step(6), back(6), step(3), step(3), back(1), step(1)]
        answered = ask(*self.BUSY, *told)[2:]
        by_number = {}
        for answer in answered:
            self.assertEqual(by_number.setdefault(answer[1], answer[2:]), answer[2:])
        self.assertEqual(by_number[300][:2], [1, 0])
        self.assertEqual(by_number[297][:2], [0, 297])
        self.assertEqual(sorted(by_number), [297, 300, 302, 303])

    def test_what_comes_behind_is_the_same(self):
        told = [*self.BUSY, watch(60), step(400)]
        asked = [GO, GO, step(200)]
        plain = ask(*told, *asked)
        for many in (1, 100, 101, 399, 400):
            again = ask(*told, back(many), step(many), *asked)
            self.assertEqual(again[5], [many] + plain[3][1:])
            self.assertEqual(again[6:], plain[4:])


if __name__ == "__main__":
    unittest.main()
