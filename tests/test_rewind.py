"""rewind: back to the last stop ahead of now, for which reason, and none passed over in either direction."""

import unittest

from tests.calling import BUSY, GO, REWIND, STATE, WHERE, A_IS_N, JUMP, PUT_A, REST
from tests.calling import ask, begin, last, pads, poke, step, stop, to, watch, wrote

LOOP = [begin(JUMP, 2, JUMP, 4, JUMP, 0), pads(1)]
WRITES = [begin(A_IS_N, 1, PUT_A, 50, PUT_A, 51, REST, 0), pads(1)]


class Reason1(unittest.TestCase):
    def test_last_ahead_of_now(self):
        self.assertEqual(ask(*LOOP, stop(4), step(100), REWIND, REWIND)[4:], [[1, 98, 0, 98, 4], [1, 95, 0, 95, 4]])

    def test_the_nearest_of_several(self):
        self.assertEqual(ask(*LOOP, stop(4), stop(2), step(6), REWIND, REWIND, REWIND)[5:], [
            [1, 5, 0, 5, 4], [1, 4, 0, 4, 2], [1, 2, 0, 2, 4]])

    def test_on_a_stop_already_the_one_before_it_counts(self):
        self.assertEqual(ask(*LOOP, stop(4), to(5), REWIND)[-1], [1, 2, 0, 2, 4])
        self.assertEqual(ask(begin(JUMP, 0), pads(1), stop(0), to(9), REWIND, REWIND)[4:], [
            [1, 8, 0, 8, 0], [1, 7, 0, 7, 0]])

    def test_straight_behind_a_stop(self):
        self.assertEqual(ask(*LOOP, stop(4), to(3), REWIND)[-1], [1, 2, 0, 2, 4])

    def test_from_the_end(self):
        self.assertEqual(ask(*LOOP, stop(4), step(1000), REWIND)[-1], [1, 299, 0, 299, 4])
        self.assertEqual(ask(*LOOP, stop(2), step(1000), REWIND)[-1], [1, 298, 0, 298, 2])

    def test_at_a_frame_s_beginning(self):
        self.assertEqual(ask(pads(1, 2, 3), stop(2), step(9), REWIND, REWIND)[3:], [[1, 1, 1, 0, 2], [0, 0, 0, 0, 0]])

    def test_taken_away(self):
        self.assertEqual(ask(*LOOP, stop(4), stop(2), stop(4, 0), to(6), REWIND)[-1], [1, 4, 0, 4, 2])


class Reason2(unittest.TestCase):
    def test_ahead_of_the_one_behind_the_write(self):
        self.assertEqual(ask(*WRITES, watch(50), step(9), REWIND, REWIND)[4:], [[2, 2, 0, 2, 4], [0, 0, 0, 0, 0]])
        self.assertEqual(ask(*WRITES, watch(50), watch(51), step(9), REWIND, REWIND, REWIND)[5:], [
            [2, 3, 0, 3, 6], [2, 2, 0, 2, 4], [0, 0, 0, 0, 0]])

    def test_on_it_already(self):
        self.assertEqual(ask(*WRITES, watch(50), to(2), REWIND)[-1], [0, 0, 0, 0, 0])

    def test_a_write_of_the_same_value(self):
        self.assertEqual(ask(begin(PUT_A, 50, A_IS_N, 1), pads(1), watch(50), step(9), REWIND)[-1], [2, 1, 0, 1, 2])

    def test_from_the_end_that_is_one_itself(self):
        # 300 writes, the last one just ahead of the end.
        told = [begin(PUT_A, 50, JUMP, 0), pads(1), watch(50)]
        self.assertEqual(ask(*told, to(299), GO, REWIND, REWIND, GO)[4:], [
            [0, 300, 1, 0, 0], [2, 299, 0, 299, 2], [2, 297, 0, 297, 2], [2, 299, 0, 299, 2]])
        told = [begin(JUMP, 2, PUT_A, 50, JUMP, 2), pads(1), watch(50)]
        self.assertEqual(ask(*told, to(299), GO, REWIND, REWIND)[4:], [
            [2, 300, 1, 0, 4], [2, 298, 0, 298, 4], [2, 296, 0, 296, 4]])

    def test_at_a_frame_s_beginning(self):
        told = [begin(JUMP, 2, PUT_A, 50, JUMP, 2), pads(1, 2), watch(50)]
        self.assertEqual(ask(*told, to(301), REWIND)[-1], [2, 300, 1, 0, 4])

    def test_pads_and_hands_are_no_instructions(self):
        self.assertEqual(ask(pads(1, 2, 3), watch(127), step(9), REWIND)[-1], [0, 0, 0, 0, 0])
        self.assertEqual(ask(pads(1, 2, 3), watch(60), to(1), poke(60, 5), step(9), REWIND)[-1], [0, 0, 0, 0, 0])

    def test_reason_1_counts_where_both_are(self):
        told = [begin(PUT_A, 50, PUT_A, 50), pads(1), watch(50), stop(2), step(9)]
        self.assertEqual(ask(*told, REWIND, REWIND, REWIND)[5:], [[2, 2, 0, 2, 4], [1, 1, 0, 1, 2], [0, 0, 0, 0, 0]])


class Beginning(unittest.TestCase):
    def test_reason_0(self):
        self.assertEqual(ask(*LOOP, step(100), REWIND)[-1], [0, 0, 0, 0, 0])
        self.assertEqual(ask(*LOOP, stop(4), to(2), REWIND)[-1], [0, 0, 0, 0, 0])

    def test_reason_1_where_it_is_a_stop(self):
        self.assertEqual(ask(*LOOP, stop(0), to(3), REWIND)[-1], [1, 0, 0, 0, 0])
        self.assertEqual(ask(*WRITES, stop(0), step(9), REWIND)[-1], [1, 0, 0, 0, 0])

    def test_there_already(self):
        self.assertEqual(ask(*LOOP, REWIND, REWIND, stop(0), REWIND, REWIND, stop(0, 0), REWIND)[2:], [
            [0, 0, 0, 0, 0], [0, 0, 0, 0, 0], [1], [1, 0, 0, 0, 0], [1, 0, 0, 0, 0], [0], [0, 0, 0, 0, 0]])

    def test_no_instruction_is_before_it(self):
        self.assertEqual(ask(begin(PUT_A, 0), pads(1), watch(0), step(1), REWIND, REWIND)[4:], [
            [0, 0, 0, 0, 0], [0, 0, 0, 0, 0]])

    def test_of_a_run_with_no_frames(self):
        # 0 is the end there: no instruction stands at place 0.
        self.assertEqual(ask(stop(0), watch(0), REWIND, REWIND)[2:], [[0, 0, 0, 0, 0]] * 2)


class NonePassedOver(unittest.TestCase):
    STOPS = [stop(20), watch(61)]

    def stops_one_by_one(self, told, end):
        """Reason and number of each, found by going ahead of every instruction in turn."""
        found = []
        for first in range(0, end + 1, 15):
            numbers = range(first, min(first + 15, end + 1))
            answered = ask(*told, *[call for number in numbers for call in (to(number), WHERE, wrote(61))])[len(told):]
            for number, where, write in zip(numbers, answered[1::3], answered[2::3]):
                if where[3] == 20 and number < end:
                    found.append((1, number))
                elif write[:2] == [1, number - 1]:
                    found.append((2, number))
        return found

    def chain(self, told, move, first):
        """Reason and number at each turn of go or rewind, until it doesn't move."""
        met = []
        now = first
        for turn in range(1000):
            answer = last(*told, to(now), move)
            if answer[1] == now:
                return met
            met.append((answer[0], answer[1]))
            now = answer[1]
        self.fail("it goes on and on")

    def compare(self, told):
        end = last(*told, WHERE)[4]
        one_by_one = self.stops_one_by_one(told, end)
        self.assertGreater(len(one_by_one), 20)
        self.assertEqual({reason for reason, number in one_by_one}, {1, 2})
        forth = self.chain(told, GO, 0)
        self.assertEqual([each for each in forth if each[0] > 0], one_by_one)
        self.assertEqual(forth[-1][1], end)
        fro = self.chain(told, REWIND, end)
        self.assertEqual([each for each in fro if each[0] > 0], one_by_one[::-1])
        self.assertEqual(fro[-1][1], 0)

    def test_to_and_fro_they_meet_the_same_ones(self):
        self.compare([*BUSY[:1], pads(37, 101), *self.STOPS])

    def test_with_changes_by_hand(self):
        changes = [to(40), poke(60, 200), poke(61, 9), to(350), poke(127, 60)]
        self.compare([*BUSY[:1], pads(37, 101), *self.STOPS, *changes])

    def test_in_one_list(self):
        told = [*BUSY, *self.STOPS]
        forth = ask(*told, *[GO] * 20)[4:]
        both = ask(*told, *[GO] * 20, *[REWIND] * 20)[4:]
        self.assertEqual(both[:20], forth)
        self.assertEqual(both[20:], forth[18::-1] + [[0, 0, 0, 0, 0]])

    def test_the_state_is_the_same_from_either_side(self):
        told = [*BUSY, *self.STOPS]
        for many in (1, 2, 7):
            answered = ask(*told, *[GO] * many, STATE, GO, REWIND, STATE)
            self.assertEqual(answered[-1], answered[-4])


if __name__ == "__main__":
    unittest.main()
