"""poke: a byte changed by hand ahead of an instruction, what follows from it, and what doesn't."""

import unittest

from tests.calling import A_IS_BYTE, A_IS_N, BUSY, GO, JUMP, PUT_A, REST, REWIND, STATE, UNPOKE, WHERE
from tests.calling import ask, back, begin, byte_in, bytes_at, last, pads, poke, program, step, stop, to, watch, wrote

# Two frames of 300 that read and write nothing.
JUMPS = [begin(JUMP, 2, JUMP, 0), pads(11, 22)]


class Answered(unittest.TestCase):
    def test_how_many_there_are_then_and_how_many_instructions(self):
        self.assertEqual(ask(*JUMPS, poke(60, 1), poke(61, 255), step(9), poke(0, 12))[2:], [
            [1, 600], [2, 600], [9, 9, 0, 9, 2], [3, 600]])

    def test_each_as_it_was_told_counts(self):
        # The same place, the same byte, the byte that's there already.
        self.assertEqual(ask(*JUMPS, poke(60, 1), poke(60, 1), poke(60, 2), poke(60, 0), poke(1, 2))[2:], [
            [1, 600], [2, 600], [3, 600], [4, 600], [5, 600]])

    def test_with_no_frames(self):
        self.assertEqual(ask(poke(0, JUMP), poke(1, 9), WHERE, pads(1), WHERE), [
            [1, 0], [2, 0], [0, 0, 0, 0, 0], [1, 2], [0, 0, 0, 0, 2]])

    def test_does_not_move(self):
        for n in (0, 1, 150, 299, 300, 301, 600):
            self.assertEqual(ask(*JUMPS, to(n), WHERE, poke(60, 1), WHERE)[3::2],
                             [last(*JUMPS, to(n), WHERE)] * 2)

    def test_bytes_0_and_255_at_places_0_and_127(self):
        for place in (0, 127):
            for byte in (0, 255):
                answered = ask(*JUMPS, to(5), poke(place, byte), STATE)
                self.assertEqual(answered[3][0], 1)
                self.assertEqual(byte_in(answered[4], place), byte)


class Longer(unittest.TestCase):
    def test_a_rest_that_is_a_jump(self):
        self.assertEqual(ask(pads(1), poke(0, JUMP)), [[1, 1], [1, 300]])
        self.assertEqual(ask(pads(1, 2), to(1), poke(2, JUMP), poke(3, 2))[2:], [[1, 3], [2, 301]])

    def test_beyond_now_only(self):
        # The rest at 4 is passed over by the jump from 2.
        told = [begin(JUMP, 2, JUMP, 4), pads(1), step(1)]
        self.assertEqual(ask(*told, poke(3, 0), GO)[3:], [[1, 300], [0, 300, 1, 0, 0]])


class Shorter(unittest.TestCase):
    def test_a_jump_that_is_a_rest(self):
        self.assertEqual(ask(begin(JUMP, 0), pads(1), to(10), poke(0, REST), WHERE, GO)[3:], [
            [1, 11], [10, 0, 10, 0, 11], [0, 11, 1, 0, 2]])

    def test_in_the_first_of_two_frames(self):
        self.assertEqual(ask(begin(JUMP, 0), pads(1, 2), to(10), poke(0, REST), step(1), step(1))[3:], [
            [1, 12], [1, 11, 1, 0, 2], [1, 12, 2, 0, 4]])

    def test_the_last_instruction(self):
        self.assertEqual(ask(begin(JUMP, 0), pads(1), to(299), poke(0, REST), step(2))[3:], [
            [1, 300], [1, 300, 1, 0, 2]])

    def test_a_later_one_is_not_come_to_any_more_but_is_still_one(self):
        told = [begin(JUMP, 0), pads(1), to(100), poke(60, 5), to(10), poke(0, REST)]
        self.assertEqual(ask(*told, poke(61, 1), step(9))[3:], [
            [1, 300], [10, 0, 10, 0], [2, 11], [3, 11], [1, 11, 1, 0, 2]])
        self.assertEqual(bytes_at(told, 60, (10, 11)), [0, 0])
        # The run comes there again, and it's that value again.
        self.assertEqual(bytes_at([*told, UNPOKE], 60, (10, 11, 99, 100, 101, 300)), [0, 0, 0, 5, 5, 5])

    def test_a_later_one_that_more_pads_come_to(self):
        told = [begin(JUMP, 0), pads(1), to(15), poke(60, 5), to(10), poke(0, REST)]
        self.assertEqual(ask(*told, pads(*[0] * 9))[-1], [10, 20])
        self.assertEqual(bytes_at([*told, pads(*[0] * 9)], 60, (14, 15, 20)), [0, 5, 5])


class InTheOrderOfTheRun(unittest.TestCase):
    def test_ahead_of_now_at_now_and_behind_now(self):
        # Told at 50, then at 20, then at 80.
        told = [*JUMPS, to(50), poke(60, 1), to(20), poke(60, 2), to(80), poke(60, 3)]
        self.assertEqual(bytes_at(told, 60, (0, 19, 20, 21, 49, 50, 51, 79, 80, 600)), [0, 0, 2, 2, 2, 1, 1, 1, 3, 3])

    def test_told_ahead_of_an_earlier_one_s_instruction_what_follows_is_changed_again(self):
        # a is [60] at 10 and is put at 61; changed there, changed further ahead too.
        told = [begin(A_IS_BYTE, 60, PUT_A, 61, JUMP, 0), pads(1), to(6), poke(60, 9), to(3), poke(60, 7)]
        self.assertEqual(bytes_at(told, 61, (2, 4, 5, 7, 8, 11)), [0, 0, 7, 7, 9, 9])

    def test_several_ahead_of_the_same_instruction(self):
        told = [*JUMPS, to(50), poke(60, 1), poke(61, 2), poke(62, 3)]
        for place, byte in ((60, 1), (61, 2), (62, 3)):
            self.assertEqual(bytes_at(told, place, (49, 50, 51)), [0, byte, byte])

    def test_to_the_same_place_the_last_told_stays(self):
        self.assertEqual(bytes_at([*JUMPS, to(50), poke(60, 1), poke(60, 2)], 60, (49, 50, 51)), [0, 2, 2])
        self.assertEqual(bytes_at([*JUMPS, to(50), poke(60, 2), poke(60, 1)], 60, (49, 50, 51)), [0, 1, 1])

    def test_to_the_same_place_with_another_told_between(self):
        told = [*JUMPS, to(50), poke(60, 1), to(10), poke(60, 8), to(50), poke(60, 2), to(90), poke(60, 9)]
        self.assertEqual(bytes_at(told, 60, (9, 10, 49, 50, 89, 90)), [0, 8, 8, 2, 2, 9])

    def test_whenever_the_run_comes_there(self):
        told = [*JUMPS, to(50), poke(60, 1)]
        self.assertEqual(bytes_at(told, 60, (50, 49, 50, 0, 600, 50, 49)), [1, 0, 1, 0, 1, 1, 0])
        answered = ask(*told, back(1), STATE, step(1), STATE, back(50), step(60), STATE)
        self.assertEqual([byte_in(answered[at], 60) for at in (5, 7, 10)], [0, 1, 1])


class WithPads(unittest.TestCase):
    def test_at_127_where_a_frame_begins(self):
        told = [*JUMPS, to(0), poke(127, 5), to(300), poke(127, 6)]
        self.assertEqual(bytes_at(told, 127, (0, 1, 299, 300, 301, 600)), [5, 5, 5, 6, 6, 6])

    def test_at_127_elsewhere_it_is_there_until_the_next_pad(self):
        told = [*JUMPS, to(299), poke(127, 5)]
        self.assertEqual(bytes_at(told, 127, (298, 299, 300)), [11, 5, 22])

    def test_the_program_reads_it(self):
        # Each frame jumps to where the byte at 127 says.
        cells = program({126: [JUMP], 0: [JUMP, 126]})
        self.assertEqual(last(begin(*cells), pads(50), poke(127, 70), step(2)), [2, 2, 0, 2, 70])

    def test_at_the_end_then_more_pads(self):
        told = [*JUMPS, to(600), poke(127, 5), poke(60, 7)]
        self.assertEqual(bytes_at(told, 127, (599, 600)), [22, 5])
        more = [*told, pads(33)]
        self.assertEqual(ask(*more, WHERE)[-2:], [[3, 900], [600, 2, 0, 0, 900]])
        self.assertEqual(bytes_at(more, 127, (599, 600, 601, 900)), [22, 5, 5, 5])
        self.assertEqual(bytes_at(more, 60, (599, 600, 601, 900)), [0, 7, 7, 7])

    def test_at_the_end_the_next_instruction_of_more_pads(self):
        # The end is at place 2, which rests until it's changed.
        self.assertEqual(ask(pads(1), step(1), poke(2, JUMP), poke(3, 40), pads(2), step(1), step(1)), [
            [1, 1], [1, 1, 1, 0, 2], [1, 1], [2, 1], [2, 3], [1, 2, 1, 1, 40], [1, 3, 2, 0, 42]])

    def test_a_frame_still_has_300_at_most(self):
        self.assertEqual(ask(*JUMPS, to(100), poke(60, 1), to(299), poke(60, 1), to(300), poke(60, 1))[3::2], [
            [1, 600], [2, 600], [3, 600]])


class WhatFollows(unittest.TestCase):
    def test_the_instruction_that_is_next_now(self):
        told = [begin(A_IS_N, 5, PUT_A, 60, REST, 0), pads(1), to(1)]
        self.assertEqual(ask(*told, poke(3, 61), step(1), wrote(60), wrote(61))[-2:], [[0], [1, 1, 0, 2, 0, 5]])
        self.assertEqual(ask(*told, poke(2, A_IS_N), step(1), STATE)[-1][:5], [60, 0, 4, 0, 0])
        self.assertEqual(ask(*told, poke(2, JUMP), WHERE, step(1))[-2:], [[1, 0, 1, 2, 3], [1, 2, 0, 2, 60]])

    def test_not_the_one_that_is_done_already(self):
        told = [begin(A_IS_N, 5, PUT_A, 60, REST, 0), pads(1), to(1), poke(1, 99), poke(0, REST)]
        self.assertEqual(ask(*told, STATE, step(1), wrote(60), WHERE)[5:], [
            [5, 0, 2, 0, 0, *program({0: [REST, 99, PUT_A, 60], 127: [1]})], [1, 2, 0, 2, 4], [1, 1, 0, 2, 0, 5],
            [2, 0, 2, 4, 3]])

    def test_an_instruction_can_put_another_byte_there(self):
        told = [begin(A_IS_N, 5, PUT_A, 60, REST, 0), pads(1), poke(60, 9)]
        self.assertEqual(bytes_at(told, 60, (0, 1, 2, 3)), [9, 9, 5, 5])

    def test_nothing_ahead_of_it_changes(self):
        for n in (1, 7, 40, 300, 310):
            told = [*BUSY, to(n), poke(60, 250), poke(4, JUMP), poke(127, 9)]
            for number in (0, n // 2, n - 1):
                asked = [to(number), STATE, wrote(60), wrote(21), wrote(61)]
                self.assertEqual(ask(*told, *asked)[len(told):], ask(*BUSY, *asked)[len(BUSY):])

    def test_no_write_that_was_ahead_of_it_changes(self):
        asked = [wrote(60), wrote(21), wrote(61), wrote(4)]
        for n in (5, 40, 300):
            self.assertEqual(ask(*BUSY, to(n), poke(60, 250), poke(4, 9), *asked)[5:], ask(*BUSY, to(n), *asked)[3:])

    def test_stops_and_watches_with_changes(self):
        told = [begin(JUMP, 2, JUMP, 0), pads(1), stop(40), watch(60), to(4), poke(1, 40)]
        self.assertEqual(ask(*told, GO, REWIND)[6:], [[1, 5, 0, 5, 40], [0, 0, 0, 0, 0]])
        # A hand puts a byte to a watched place: that's no stop. What an instruction made by hand puts is one.
        self.assertEqual(ask(*told[:4], to(6), poke(60, 7), back(1), GO)[-1], [0, 300, 1, 0, 0])
        self.assertEqual(ask(*told[:4], to(6), poke(0, PUT_A), poke(1, 60), back(6), GO, REWIND)[-2:], [
            [2, 7, 0, 7, 2], [0, 0, 0, 0, 0]])

    def test_a_watched_write_just_ahead_of_a_hand_is_still_a_stop(self):
        told = [begin(PUT_A, 60, JUMP, 2), pads(1), watch(60), to(1), poke(60, 9), to(0)]
        self.assertEqual(ask(*told, GO)[-1], [2, 1, 0, 1, 2])

    def test_step_and_back_pass_through_them(self):
        told = [begin(JUMP, 0), pads(1), to(10), poke(1, 40), to(0)]
        self.assertEqual(ask(*told, step(11), back(1), back(10), step(1000))[5:], [
            [11, 11, 0, 11, 40], [1, 10, 0, 10, 0], [10, 0, 0, 0, 0], [12, 12, 1, 0, 42]])

    def test_pads_told_behind_them(self):
        self.assertEqual(ask(begin(JUMP, 0), pads(1), to(10), poke(0, REST), pads(1, 2), pads(3), to(14))[3:], [
            [1, 11], [3, 13], [4, 14], [14, 4, 0, 8]])


class Refused(unittest.TestCase):
    FULL = [*JUMPS, *[poke(60, byte) for byte in range(20)]]

    def test_exactly_20(self):
        self.assertEqual(ask(*self.FULL, poke(61, 1), WHERE)[-3:], [[20, 600], [-5], [0, 0, 0, 0, 600]])
        self.assertEqual(bytes_at([*self.FULL, poke(60, 99)], 60, (0,)), [19])

    def test_20_at_20_instructions(self):
        told = [call for n in range(20) for call in (to(7 * n), poke(60, n + 1))]
        self.assertEqual(ask(*JUMPS, *told, poke(60, 1))[-2:], [[20, 600], [-5]])
        for n in (0, 1, 10, 19):
            self.assertEqual(bytes_at([*JUMPS, *told], 60, (7 * n, 7 * n + 6)), [n + 1, n + 1])

    def test_room_again(self):
        self.assertEqual(ask(*self.FULL, poke(1, 1), UNPOKE, poke(61, 1), poke(61, 1))[-4:], [
            [-5], [0, 0, 0, 0], [20, 600], [-5]])
        self.assertEqual(ask(*self.FULL, begin(), poke(61, 1))[-2:], [[0], [1, 0]])

    def test_those_that_the_run_does_not_come_to_count(self):
        told = [begin(JUMP, 0), pads(1), to(100), *[poke(60, 1)] * 19, to(10), poke(0, REST)]
        self.assertEqual(ask(*told, poke(60, 1))[-2:], [[20, 11], [-5]])

    def test_a_place_that_is_none(self):
        for place in (-1, 128, -1000000, 1000000):
            self.assertEqual(ask(*JUMPS, poke(place, 5), poke(60, 5))[2:], [[-1], [1, 600]])

    def test_a_byte_that_is_none(self):
        for byte in (-1, 256, -1000000, 1000000):
            self.assertEqual(ask(*JUMPS, poke(60, byte), poke(60, 5))[2:], [[-1], [1, 600]])

    def test_where_both_refusals_are_due(self):
        for call in (poke(-1, 5), poke(128, 5), poke(60, -1), poke(60, 256), poke(-1, 256)):
            self.assertEqual(ask(*self.FULL, call)[-1], [-1])
            self.assertEqual(ask(*JUMPS, call)[-1], [-1])

    def test_nothing_has_changed(self):
        told = [*BUSY, stop(20), watch(61), to(310), poke(60, 7), poke(127, 3)]
        asked = [WHERE, STATE, wrote(60), stop(20), watch(61), GO, REWIND, UNPOKE, UNPOKE, UNPOKE, STATE]
        plain = ask(*told, *asked)
        for wrong in (poke(-1, 0), poke(128, 0), poke(0, -1), poke(0, 256)):
            self.assertEqual(ask(*told, wrong, *asked), plain[:7] + [[-1]] + plain[7:])


if __name__ == "__main__":
    unittest.main()
