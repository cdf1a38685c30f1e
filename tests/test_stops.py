"""stop, watch and go: how many there are, where it stops, and for which reason."""

import unittest

from tests.calling import ADD_TO_X, GO, A_IS_N, JUMP, JUMP_NOT_Z, PUT_A, PUT_A_X, REST, X_IS_N
from tests.calling import ask, back, begin, last, pads, step, stop, watch


class Told(unittest.TestCase):
    def test_how_many_there_are_then(self):
        for call in (stop, watch):
            put = [call(0), call(127), call(5), call(5)]
            taken = [call(127, 0), call(127, 0), call(9, 0), call(0, 0), call(5, 0), call(5, 0)]
            self.assertEqual(ask(*put, *taken), [[1], [2], [3], [3], [2], [2], [2], [1], [0], [0]])

    def test_stops_and_watches_are_counted_apart(self):
        self.assertEqual(ask(stop(1), stop(2), watch(3), stop(3, 0), watch(1, 0), watch(3, 0), stop(9)),
                         [[1], [2], [1], [2], [1], [0], [3]])

    def test_many_places_at_once(self):
        for call in (stop, watch):
            told = [call(place) for place in range(59)]
            self.assertEqual(ask(*told), [[many] for many in range(1, 60)])

    def test_a_place_that_is_none(self):
        for call in (stop, watch):
            for place in (-1, 128, 255, -1000000, 1000000):
                for on in (0, 1, 2, -1):
                    self.assertEqual(ask(call(7), call(place, on), call(7)), [[1], [-1], [1]])

    def test_neither_1_nor_0(self):
        for call in (stop, watch):
            for on in (-1, 2, 3, -1000000, 1000000):
                for place in (0, 7, 127):
                    self.assertEqual(ask(call(7), call(place, on), call(7)), [[1], [-1], [1]])

    def test_a_refusal_takes_no_place_away(self):
        self.assertEqual(last(begin(A_IS_N, 1), pads(1), stop(2), stop(2, 2), stop(2, -1), GO), [1, 1, 0, 1, 2])

    def test_a_refusal_does_not_make_a_place_one(self):
        # 128 would be place 0, -126 place 2.
        self.assertEqual(last(begin(A_IS_N, 1), pads(1, 2), stop(130), stop(-126), GO), [0, 3, 2, 0, 6])

    def test_does_not_move(self):
        self.assertEqual(last(begin(A_IS_N, 1), pads(1), step(1), stop(2), watch(3), step(0)), [0, 1, 0, 1, 2])


class Reason1(unittest.TestCase):
    LOOP = [begin(JUMP, 2, JUMP, 4, JUMP, 0), pads(1)]

    def test_first_behind_now(self):
        self.assertEqual(ask(*self.LOOP, stop(4), GO, GO)[3:], [[1, 2, 0, 2, 4], [1, 5, 0, 5, 4]])

    def test_the_nearest_of_several(self):
        self.assertEqual(ask(*self.LOOP, stop(4), stop(2), GO, GO, GO)[4:], [
            [1, 1, 0, 1, 2], [1, 2, 0, 2, 4], [1, 4, 0, 4, 2]])

    def test_on_a_stop_already_the_next_one_counts(self):
        self.assertEqual(ask(*self.LOOP, stop(0), GO)[3:], [[1, 3, 0, 3, 0]])
        self.assertEqual(ask(*self.LOOP, step(2), stop(4), GO)[4:], [[1, 5, 0, 5, 4]])
        self.assertEqual(ask(begin(JUMP, 0), pads(1), stop(0), GO, GO)[3:], [[1, 1, 0, 1, 0], [1, 2, 0, 2, 0]])

    def test_taken_away_it_stops_no_more(self):
        self.assertEqual(ask(*self.LOOP, stop(4), stop(2), GO, stop(4, 0), GO)[-1], [1, 4, 0, 4, 2])

    def test_told_twice_taken_away_once(self):
        self.assertEqual(ask(*self.LOOP, stop(4), stop(4), stop(4, 0), GO)[-1], [0, 300, 1, 0, 0])

    def test_at_a_frame_s_beginning(self):
        self.assertEqual(ask(pads(1, 2, 3), stop(4), GO, GO), [[3, 3], [1], [1, 2, 2, 0, 4], [0, 3, 3, 0, 6]])

    def test_at_an_odd_place_and_at_127(self):
        self.assertEqual(last(begin(JUMP, 127), pads(REST), stop(127), GO), [1, 1, 0, 1, 127])

    def test_a_place_in_the_midst_of_an_instruction_is_none(self):
        self.assertEqual(ask(*self.LOOP, stop(3), GO)[-1], [0, 300, 1, 0, 0])

    def test_no_instruction_stands_at_the_end(self):
        self.assertEqual(ask(pads(1), stop(2), GO, GO), [[1, 1], [1], [0, 1, 1, 0, 2], [0, 1, 1, 0, 2]])

    def test_what_was_the_end_can_be_a_stop_when_there_are_more_pads(self):
        self.assertEqual(ask(pads(1), stop(2), GO, pads(2), back(1), GO)[2:], [
            [0, 1, 1, 0, 2], [2, 2], [1, 0, 0, 0, 0], [1, 1, 1, 0, 2]])

    def test_behind_going_back(self):
        self.assertEqual(ask(*self.LOOP, stop(4), step(100), back(96), GO)[-1], [1, 5, 0, 5, 4])


class Reason2(unittest.TestCase):
    WRITES = [begin(A_IS_N, 1, PUT_A, 50, PUT_A, 51, REST, 0), pads(1)]

    def test_ahead_of_the_one_behind_the_write(self):
        self.assertEqual(ask(*self.WRITES, watch(50), GO, GO)[3:], [[2, 2, 0, 2, 4], [0, 4, 1, 0, 8]])
        self.assertEqual(ask(*self.WRITES, watch(51), GO, GO)[3:], [[2, 3, 0, 3, 6], [0, 4, 1, 0, 8]])
        self.assertEqual(ask(*self.WRITES, watch(50), watch(51), GO, GO, GO)[4:], [
            [2, 2, 0, 2, 4], [2, 3, 0, 3, 6], [0, 4, 1, 0, 8]])

    def test_taken_away(self):
        self.assertEqual(ask(*self.WRITES, watch(50), watch(51), watch(50, 0), GO)[-1], [2, 3, 0, 3, 6])

    def test_a_watched_place_where_an_instruction_stands(self):
        self.assertEqual(ask(*self.WRITES, watch(0), watch(2), watch(4), GO)[-1], [0, 4, 1, 0, 8])

    def test_a_write_of_the_same_value(self):
        self.assertEqual(last(begin(PUT_A, 50), pads(1), watch(50), GO), [2, 1, 0, 1, 2])
        self.assertEqual(ask(begin(A_IS_N, 8, PUT_A, 50, PUT_A, 50), pads(1), watch(50), GO, GO)[3:], [
            [2, 2, 0, 2, 4], [2, 3, 0, 3, 6]])

    def test_by_n_and_x(self):
        self.assertEqual(last(begin(X_IS_N, 7, PUT_A_X, 50), pads(1), watch(57), GO), [2, 2, 0, 2, 4])
        self.assertEqual(last(begin(X_IS_N, 7, PUT_A_X, 50), pads(1), watch(50), GO), [0, 3, 1, 0, 6])

    def test_places_modulo_128(self):
        self.assertEqual(last(begin(PUT_A, 178), pads(1), watch(50), GO), [2, 1, 0, 1, 2])

    def test_pads_are_no_writes_of_an_instruction(self):
        self.assertEqual(ask(pads(1, 2, 3), watch(127), GO), [[3, 3], [1], [0, 3, 3, 0, 6]])

    def test_an_instruction_s_write_at_127_is_one(self):
        self.assertEqual(last(begin(PUT_A, 127), pads(1), watch(127), GO), [2, 1, 0, 1, 2])

    def test_reading_is_no_write(self):
        cells = [2, 50, 4, 50, 8, 50, 9, 50, 10, 50, 11, 50, 6, 50, 7, 50]
        self.assertEqual(last(begin(*cells), pads(1), watch(50), GO), [0, 9, 1, 0, 18])

    def last_write(self, frames):
        """The 300th instruction of frame 0 puts a byte at 50."""
        # One, 149 times two in the loop, then the write; behind it a jump to itself.
        cells = [X_IS_N, 256 - 149, ADD_TO_X, 1, JUMP_NOT_Z, 2, PUT_A, 50, JUMP, 8]
        return [begin(*cells), pads(*[1] * frames)]

    def test_the_write_of_a_frame_s_last_instruction_at_the_next_one_s_beginning(self):
        self.assertEqual(ask(*self.last_write(2), watch(50), GO, GO)[3:], [[2, 300, 1, 0, 8], [0, 600, 2, 0, 8]])

    def test_the_write_of_the_run_s_last_instruction(self):
        self.assertEqual(ask(*self.last_write(1), watch(50), GO)[3:], [[2, 300, 1, 0, 8]])
        self.assertEqual(ask(*self.last_write(1), watch(51), GO)[3:], [[0, 300, 1, 0, 8]])

    def test_a_stop_s_place_does_not_count_at_the_end(self):
        self.assertEqual(ask(*self.last_write(1), watch(50), stop(8), GO)[-1], [2, 300, 1, 0, 8])
        self.assertEqual(ask(*self.last_write(1), stop(8), GO)[-1], [0, 300, 1, 0, 8])
        self.assertEqual(ask(*self.last_write(2), watch(50), stop(8), GO)[-1], [1, 300, 1, 0, 8])

    def test_at_the_end_already_the_reason_is_the_end_s_own(self):
        self.assertEqual(ask(*self.last_write(1), watch(50), GO, GO)[3:], [[2, 300, 1, 0, 8]] * 2)
        self.assertEqual(ask(*self.last_write(1), step(300), watch(50), GO, watch(50, 0), GO)[4:], [
            [2, 300, 1, 0, 8], [0], [0, 300, 1, 0, 8]])


class BothReasons(unittest.TestCase):
    def test_1_counts(self):
        told = [begin(PUT_A, 50, PUT_A, 50), pads(1), watch(50), stop(2)]
        self.assertEqual(ask(*told, GO, GO, GO)[4:], [[1, 1, 0, 1, 2], [2, 2, 0, 2, 4], [0, 3, 1, 0, 6]])

    def test_none_is_passed_over(self):
        told = [begin(PUT_A, 50, A_IS_N, 1, PUT_A, 51, A_IS_N, 2), pads(1), watch(50), watch(51), stop(4)]
        self.assertEqual(ask(*told, GO, GO, GO, GO)[5:], [
            [2, 1, 0, 1, 2], [1, 2, 0, 2, 4], [2, 3, 0, 3, 6], [0, 5, 1, 0, 10]])


class Reason0(unittest.TestCase):
    def test_to_the_end(self):
        self.assertEqual(ask(begin(A_IS_N, 1), pads(1, 2), GO)[2:], [[0, 3, 2, 0, 6]])

    def test_at_the_end_already(self):
        self.assertEqual(ask(begin(A_IS_N, 1), pads(1, 2), stop(0), stop(2), GO, GO, GO)[4:], [
            [1, 1, 0, 1, 2], [0, 3, 2, 0, 6], [0, 3, 2, 0, 6]])

    def test_at_the_beginning_of_a_run_with_no_frames(self):
        self.assertEqual(ask(stop(0), watch(0), GO), [[1], [1], [0, 0, 0, 0, 0]])


if __name__ == "__main__":
    unittest.main()
