"""to and where: where it is, ahead of which instruction, and how many the run has."""

import unittest

from tests.calling import BUSY, GO, REWIND, SHORT, SPOTS, UNPOKE, WHERE, JUMP, REST
from tests.calling import ask, back, begin, pads, poke, step, stop, to, watch


class To(unittest.TestCase):
    def test_every_one_from_everywhere(self):
        for first in range(7):
            for n in range(7):
                self.assertEqual(ask(*SHORT, to(first), to(n), WHERE)[2:], [SPOTS[first], SPOTS[n], SPOTS[n] + [6]])

    def test_the_end_and_beyond(self):
        self.assertEqual(ask(*SHORT, to(6), to(7), WHERE, to(5))[2:], [SPOTS[6], [-3], SPOTS[6] + [6], SPOTS[5]])

    def test_refused(self):
        for n in (-1, -2, -1000000, 7, 8, 1000000):
            for first in (0, 3, 6):
                self.assertEqual(ask(*SHORT, to(first), to(n), WHERE)[3:], [[-3], SPOTS[first] + [6]])

    def test_with_no_frames_0_is_the_end(self):
        self.assertEqual(ask(to(0), to(1), to(-1), WHERE), [[0, 0, 0, 0], [-3], [-3], [0, 0, 0, 0, 0]])
        self.assertEqual(ask(begin(JUMP, 5), to(0), to(1)), [[0], [0, 0, 0, 0], [-3]])

    def test_of_the_longest_run(self):
        self.assertEqual(ask(begin(JUMP, 0), pads(*[1] * 20), to(6000), to(6001), to(5999), to(300), to(299))[2:], [
            [6000, 20, 0, 0], [-3], [5999, 19, 299, 0], [300, 1, 0, 0], [299, 0, 299, 0]])

    def test_passes_over_stops_and_watches(self):
        self.assertEqual(ask(*SHORT, stop(2), watch(127), to(5), to(1), to(0))[4:], [SPOTS[5], SPOTS[1], SPOTS[0]])

    def test_the_same_as_by_step_and_back(self):
        for n in (0, 1, 17, 299, 300, 301, 450, 899, 900):
            by_step = ask(*BUSY, step(n))[-1][1:]
            by_back = ask(*BUSY, step(1000), back(900 - n))[-1][1:]
            self.assertEqual(ask(*BUSY, to(450), to(n))[-1], by_step)
            self.assertEqual(by_back, by_step)

    def test_what_there_is_follows_the_run(self):
        # A jump to itself, made a rest by hand: what was there isn't any more, and is again.
        told = [begin(JUMP, 0), pads(1), to(10), poke(0, REST)]
        self.assertEqual(ask(*told, to(11), to(12), UNPOKE, to(12), to(300), to(301))[4:], [
            [11, 1, 0, 2], [-3], [10, 0, 10, 0], [12, 0, 12, 0], [300, 1, 0, 0], [-3]])


class Where(unittest.TestCase):
    def test_everywhere(self):
        for n in range(7):
            self.assertEqual(ask(*SHORT, step(n), WHERE, WHERE)[3:], [SPOTS[n] + [6]] * 2)

    def test_with_no_frames(self):
        self.assertEqual(ask(WHERE, begin(JUMP, 5), WHERE, pads(), WHERE), [
            [0, 0, 0, 0, 0], [0], [0, 0, 0, 0, 0], [0, 0], [0, 0, 0, 0, 0]])

    def test_at_a_frame_s_beginning_and_around_it(self):
        self.assertEqual(ask(begin(JUMP, 0), pads(1, 2), to(299), WHERE, to(300), WHERE, to(301), WHERE)[3::2], [
            [299, 0, 299, 0, 600], [300, 1, 0, 0, 600], [301, 1, 1, 0, 600]])

    def test_at_the_end_the_frame_is_how_many_there_are(self):
        self.assertEqual(ask(begin(JUMP, 0), pads(*[1] * 20), step(6000), WHERE)[-1], [6000, 20, 0, 0, 6000])

    def test_behind_each_call(self):
        told = [stop(8), GO, pads(5), poke(50, 1), REWIND, UNPOKE]
        self.assertEqual(ask(*SHORT, WHERE, *[each for call in told for each in (call, WHERE)])[2::2], [
            SPOTS[0] + [6], SPOTS[0] + [6], SPOTS[4] + [6], SPOTS[4] + [7], SPOTS[4] + [7], SPOTS[0] + [7],
            SPOTS[4] + [7]])

    def test_more_pads_at_the_end(self):
        # What was the end is then ahead of the new frame's first instruction.
        self.assertEqual(ask(*SHORT, step(9), WHERE, pads(1, 2), WHERE)[3:], [
            SPOTS[6] + [6], [5, 8], SPOTS[6] + [8]])

    def test_how_many_instructions_follow_the_changes(self):
        self.assertEqual(ask(pads(1), WHERE, poke(0, JUMP), WHERE, UNPOKE, WHERE)[1::2], [
            [0, 0, 0, 0, 1], [0, 0, 0, 0, 300], [0, 0, 0, 0, 1]])


if __name__ == "__main__":
    unittest.main()
