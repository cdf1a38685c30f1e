"""step and back: how many were done, where it is then, and that back is where it was."""

import unittest

from tests.calling import BUSY, GO, SHORT, SPOTS
from tests.calling import ask, back, step, stop, watch


class Step(unittest.TestCase):
    def test_every_n_from_everywhere(self):
        for first in range(7):
            for n in range(9):
                many = min(n, 6 - first)
                self.assertEqual(ask(*SHORT, step(first), step(n))[2:], [
                    [first] + SPOTS[first], [many] + SPOTS[first + many]])

    def test_n_of_a_million(self):
        self.assertEqual(ask(*SHORT, step(1000000), step(1000000))[2:], [[6] + SPOTS[6], [0] + SPOTS[6]])

    def test_passes_over_stops_and_watches(self):
        self.assertEqual(ask(*SHORT, stop(4), watch(127), step(5))[-1], [5] + SPOTS[5])

    def test_below_0(self):
        for n in (-1, -2, -1000000):
            self.assertEqual(ask(*SHORT, step(3), step(n), step(1))[2:], [[3] + SPOTS[3], [-1], [1] + SPOTS[4]])


class Back(unittest.TestCase):
    def test_every_n_from_everywhere(self):
        for first in range(7):
            for n in range(9):
                many = min(n, first)
                self.assertEqual(ask(*SHORT, step(first), back(n))[2:], [
                    [first] + SPOTS[first], [many] + SPOTS[first - many]])

    def test_n_of_a_million(self):
        self.assertEqual(ask(*SHORT, step(5), back(1000000), back(1))[2:], [
            [5] + SPOTS[5], [5] + SPOTS[0], [0] + SPOTS[0]])

    def test_passes_over_stops_and_watches(self):
        self.assertEqual(ask(*SHORT, stop(4), watch(127), step(6), back(5))[-1], [5] + SPOTS[1])

    def test_below_0(self):
        for n in (-1, -2, -1000000):
            self.assertEqual(ask(*SHORT, step(3), back(n), back(1))[2:], [[3] + SPOTS[3], [-1], [1] + SPOTS[2]])


class ThereAndBack(unittest.TestCase):
    def test_goes_on_for_three_whole_frames(self):
        self.assertEqual(ask(*BUSY)[1], [3, 900])

    def test_back_is_where_it_was(self):
        forth = ask(*BUSY, *[step(15)] * 40)[2:]
        spots = [[0, 0, 0, 0]] + [answer[1:] for answer in forth]
        both = ask(*BUSY, step(600), *[back(15)] * 40)[2:]
        self.assertEqual([answer[1:] for answer in both], spots[::-1])

    def test_to_and_fro_over_a_frame_s_beginning(self):
        told = [step(297), step(3), step(3), back(3), back(3), step(6), back(6), step(3), step(3), back(1), step(1)]
        answered = ask(*BUSY, *told)[2:]
        by_number = {}
        for answer in answered:
            self.assertEqual(by_number.setdefault(answer[1], answer[2:]), answer[2:])
        self.assertEqual(by_number[300][:2], [1, 0])
        self.assertEqual(by_number[297][:2], [0, 297])
        self.assertEqual(sorted(by_number), [297, 300, 302, 303])

    def test_what_comes_behind_is_the_same(self):
        told = [*BUSY, watch(60), step(400)]
        asked = [GO, GO, step(200)]
        plain = ask(*told, *asked)
        for many in (1, 100, 101, 399, 400):
            again = ask(*told, back(many), step(many), *asked)
            self.assertEqual(again[5], [many] + plain[3][1:])
            self.assertEqual(again[6:], plain[4:])


if __name__ == "__main__":
    unittest.main()
