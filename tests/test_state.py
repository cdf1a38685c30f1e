"""state: all of the machine as numbers, and the same ones at the same instruction however one came there."""

import unittest

from tests.calling import ADD, A_IS_N, BUSY, GO, JUMP, PUT_A, REST, REWIND, STATE, TAKE, UNPOKE, WHERE, X_IS_N
from tests.calling import ask, back, begin, byte_in, last, numbers, pads, poke, program, step, stop, to, watch


class AllOfIt(unittest.TestCase):
    def test_at_the_beginning(self):
        self.assertEqual(last(STATE), [0, 0, 0, 1, 0] + [0] * 128)
        self.assertEqual(last(begin(), STATE), [0, 0, 0, 1, 0] + [0] * 128)

    def test_133_numbers_and_no_count(self):
        for told in ([], [begin(*range(128))], [*BUSY], [*BUSY, to(900)]):
            self.assertEqual(len(last(*told, STATE)), 133)

    def test_loaded(self):
        self.assertEqual(last(begin(9, 8, 255), STATE), [0, 0, 0, 1, 0, 9, 8, 255] + [0] * 125)
        self.assertEqual(last(begin(*range(128)), STATE), [0, 0, 0, 1, 0] + list(range(128)))

    def test_order(self):
        at = {0: [X_IS_N, 9, A_IS_N, 200, ADD, 100], 100: [100]}
        told = [begin(*program(at)), pads(77)]
        at[127] = [77]
        self.assertEqual(ask(*told, STATE, step(1), STATE, step(1), STATE, step(1), STATE)[2::2], [
            numbers(0, 0, 0, 1, 0, at), numbers(0, 9, 2, 0, 0, at), numbers(200, 9, 4, 0, 0, at),
            numbers(44, 9, 6, 0, 1, at)])

    def test_the_flags(self):
        for byte, a, z, c in ((55, 255, 0, 0), (56, 0, 1, 1), (57, 1, 0, 1)):
            at = {0: [A_IS_N, 200, ADD, 100], 100: [byte], 127: [1]}
            self.assertEqual(last(begin(*program(at)), pads(1), step(2), STATE), numbers(a, 0, 4, z, c, at))
        for byte, a, z, c in ((199, 1, 0, 0), (200, 0, 1, 0), (201, 255, 0, 1)):
            at = {0: [A_IS_N, 200, TAKE, 100], 100: [byte], 127: [1]}
            self.assertEqual(last(begin(*program(at)), pads(1), step(2), STATE), numbers(a, 0, 4, z, c, at))

    def test_a_write(self):
        told = [begin(A_IS_N, 7, PUT_A, 60), pads(5)]
        before = {0: [A_IS_N, 7, PUT_A, 60], 127: [5]}
        after = {0: [A_IS_N, 7, PUT_A, 60], 60: [7], 127: [5]}
        self.assertEqual(ask(*told, to(1), STATE, to(2), STATE, to(1), STATE)[3::2], [
            numbers(7, 0, 2, 0, 0, before), numbers(7, 0, 4, 0, 0, after), numbers(7, 0, 2, 0, 0, before)])

    def test_the_place_is_modulo_128(self):
        self.assertEqual(last(begin(JUMP, 254), pads(0), step(1), STATE)[2], 126)
        self.assertEqual(last(begin(JUMP, 126), pads(0), step(2), STATE)[2], 0)

    def test_does_not_move(self):
        self.assertEqual(ask(*BUSY, to(500), STATE, STATE, WHERE)[3:],
                         [last(*BUSY, to(500), STATE)] * 2 + [last(*BUSY, to(500), WHERE)])


class PadsIn(unittest.TestCase):
    def test_at_a_frame_s_beginning(self):
        # Three frames of one rest each.
        states = ask(pads(11, 22, 33), *[call for n in range(4) for call in (to(n), STATE)])[2::2]
        self.assertEqual([byte_in(state, 127) for state in states], [11, 22, 33, 33])

    def test_not_ahead_of_it(self):
        states = ask(begin(JUMP, 0), pads(11, 22), to(299), STATE, to(300), STATE, to(299), STATE)[3::2]
        self.assertEqual([byte_in(state, 127) for state in states], [11, 22, 11])

    def test_with_no_frames_none_is_put(self):
        self.assertEqual(byte_in(last(begin(*[9] * 128), STATE), 127), 9)

    def test_at_the_end_and_when_more_pads_are_told_there(self):
        states = ask(pads(11), step(1), STATE, pads(22), STATE, step(1), STATE)
        self.assertEqual([byte_in(state, 127) for state in states[2::2]], [11, 22, 22])

    def test_told_at_the_beginning_of_a_run_with_no_frames(self):
        self.assertEqual([byte_in(state, 127) for state in ask(STATE, pads(11), STATE)[::2]], [0, 11])

    def test_a_byte_that_a_program_put_there(self):
        told = [begin(A_IS_N, 7, PUT_A, 127), pads(11, 22)]
        states = ask(*told, *[call for n in range(5) for call in (to(n), STATE)])[3::2]
        self.assertEqual([byte_in(state, 127) for state in states], [11, 11, 7, 22, 22])


class HandsIn(unittest.TestCase):
    # A loop of two jumps.
    TOLD = [begin(JUMP, 2, JUMP, 0), pads(11, 22)]

    def test_where_it_was_changed_and_behind_not_ahead(self):
        told = [*self.TOLD, to(7), poke(60, 5)]
        for n, byte in ((0, 0), (6, 0), (7, 5), (8, 5), (299, 5), (300, 5), (600, 5)):
            self.assertEqual(byte_in(last(*told, to(n), STATE), 60), byte)

    def test_at_once(self):
        plain = last(*self.TOLD, to(7), STATE)
        changed = last(*self.TOLD, to(7), poke(60, 5), STATE)
        self.assertEqual([place for place in range(133) if plain[place] != changed[place]], [65])
        self.assertEqual(byte_in(changed, 60), 5)

    def test_at_the_end(self):
        told = [*self.TOLD, to(600), poke(60, 5)]
        states = ask(*told, STATE, to(599), STATE, to(600), STATE)[4::2]
        self.assertEqual([byte_in(state, 60) for state in states], [5, 0, 5])

    def test_until_an_instruction_puts_another(self):
        told = [begin(A_IS_N, 7, REST, 0, PUT_A, 60), pads(1, 2), to(1), poke(60, 5)]
        states = ask(*told, *[call for n in range(5) for call in (to(n), STATE)])[5::2]
        self.assertEqual([byte_in(state, 60) for state in states], [0, 5, 5, 7, 7])


class TheSameAtTheSame(unittest.TestCase):
    CHANGED = [*BUSY, to(310), poke(127, 77), to(20), poke(60, 200), poke(21, 6), to(0)]

    def ways(self, told, n, end):
        yield ask(*told, to(n), STATE)[-1]
        yield ask(*told, step(n), STATE)[-1]
        yield ask(*told, *[step(n // 10)] * 10, step(n % 10), STATE)[-1]
        yield ask(*told, step(end), back(end - n), STATE)[-1]
        yield ask(*told, to(end), to(0), to(n), STATE)[-1]
        yield ask(*told, to(n), back(9), step(9 if n >= 9 else n), STATE)[-1]
        yield ask(*told, to(n), poke(0, 9), UNPOKE, STATE)[-1]
        yield ask(*told, to(n), poke(0, 9), to(0), UNPOKE, STATE)[-1]

    def test_step_back_to_and_unpoke(self):
        for told in (BUSY, self.CHANGED):
            end = last(*told, WHERE)[4]
            for n in (0, 1, 5, 20, 21, 299, 300, 301, 309, 310, 311, 600, end - 1, end):
                states = list(self.ways(told, n, end))
                self.assertEqual(states, states[:1] * len(states), n)

    def test_go_and_rewind(self):
        for told in (BUSY, self.CHANGED):
            told = [*told, stop(20), watch(61)]
            for move, first in ((GO, 0), (REWIND, 700)):
                answered = ask(*told, to(first), *[move, STATE] * 12)[len(told) + 1:]
                for met, state in zip(answered[::2], answered[1::2]):
                    self.assertEqual(state, last(*told, to(met[1]), STATE))
                    self.assertEqual(state[2], met[4])


if __name__ == "__main__":
    unittest.main()
