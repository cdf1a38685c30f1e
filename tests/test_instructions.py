"""Each of the 16 instructions, on the machine itself and through the calls."""

import unittest

from backwardrun.machine import Machine, do_instruction
from tests.calling import A_IS_BYTE, A_IS_BYTE_X, A_IS_N, ADD, ADD_TO_X, AND, JUMP, JUMP_C, JUMP_NOT_Z, JUMP_Z
from tests.calling import PUT_A, PUT_A_X, REST, TAKE, X_IS_N, XOR
from tests.calling import GO, ask, begin, last, pads, program, step, watch

FLAGS = [(False, False), (False, True), (True, False), (True, True)]


def machine_of(cells, a=0, x=0, place=0, zero=True, carry=False):
    machine = Machine(cells)
    machine.a = a
    machine.x = x
    machine.place = place
    machine.zero = zero
    machine.carry = carry
    return machine


def all_of(machine):
    return machine.a, machine.x, machine.place, machine.zero, machine.carry


class Values(unittest.TestCase):
    """Instructions that put into a or x; z and c are tried both ways ahead of each."""

    def done(self, which, n, a, x, expected, carry=None, at_n=None):
        """carry None: c stays as it was."""
        for zero, was in FLAGS:
            cells = program({0: [which, n]})
            for place, byte in (at_n or {}).items():
                cells[place] = byte
            machine = machine_of(cells, a, x, 0, zero, was)
            self.assertIs(do_instruction(machine), False)
            now_a, now_x, now_zero = expected
            now_carry = was if carry is None else carry
            self.assertEqual(all_of(machine), (now_a, now_x, 2, now_zero, now_carry))
            self.assertEqual(machine.cells, cells)
            self.assertIsNone(machine.written)

    def test_1_a_is_n(self):
        self.done(A_IS_N, 5, 9, 3, (5, 3, False))
        self.done(A_IS_N, 255, 9, 3, (255, 3, False))
        self.done(A_IS_N, 0, 9, 3, (0, 3, True))

    def test_2_a_is_byte(self):
        self.done(A_IS_BYTE, 50, 9, 3, (200, 3, False), None, {50: 200, 53: 1})
        self.done(A_IS_BYTE, 50, 9, 3, (0, 3, True), None, {50: 0, 53: 1})
        self.done(A_IS_BYTE, 128 + 50, 9, 3, (7, 3, False), None, {50: 7})
        self.done(A_IS_BYTE, 127, 9, 3, (8, 3, False), None, {127: 8})

    def test_4_a_is_byte_x_further(self):
        self.done(A_IS_BYTE_X, 50, 9, 3, (200, 3, False), None, {50: 1, 53: 200})
        self.done(A_IS_BYTE_X, 50, 9, 3, (0, 3, True), None, {50: 1, 53: 0})
        self.done(A_IS_BYTE_X, 100, 9, 50, (7, 50, False), None, {22: 7})
        self.done(A_IS_BYTE_X, 255, 9, 255, (7, 255, False), None, {126: 7})

    def test_6_x_is_n(self):
        self.done(X_IS_N, 5, 9, 3, (9, 5, False))
        self.done(X_IS_N, 255, 0, 3, (0, 255, False))
        self.done(X_IS_N, 0, 9, 3, (9, 0, True))

    def test_7_x_is_x_and_n(self):
        self.done(ADD_TO_X, 5, 9, 3, (9, 8, False))
        self.done(ADD_TO_X, 253, 9, 3, (9, 0, True))
        self.done(ADD_TO_X, 255, 0, 3, (0, 2, False))
        self.done(ADD_TO_X, 0, 9, 0, (9, 0, True))
        self.done(ADD_TO_X, 0, 0, 9, (0, 9, False))

    def test_8_add(self):
        self.done(ADD, 50, 9, 3, (29, 3, False), False, {50: 20, 53: 1})
        self.done(ADD, 50, 200, 3, (255, 3, False), False, {50: 55})
        self.done(ADD, 50, 200, 3, (0, 3, True), True, {50: 56})
        self.done(ADD, 50, 255, 3, (254, 3, False), True, {50: 255})
        self.done(ADD, 50, 0, 3, (0, 3, True), False, {50: 0})
        self.done(ADD, 178, 9, 3, (29, 3, False), False, {50: 20})

    def test_9_take(self):
        self.done(TAKE, 50, 9, 3, (4, 3, False), False, {50: 5, 53: 1})
        self.done(TAKE, 50, 9, 3, (0, 3, True), False, {50: 9})
        self.done(TAKE, 50, 9, 3, (255, 3, False), True, {50: 10})
        self.done(TAKE, 50, 0, 3, (1, 3, False), True, {50: 255})
        self.done(TAKE, 50, 0, 3, (0, 3, True), False, {50: 0})
        self.done(TAKE, 178, 9, 3, (4, 3, False), False, {50: 5})

    def test_10_and(self):
        self.done(AND, 50, 0b11001100, 3, (0b10001000, 3, False), None, {50: 0b10101010, 53: 1})
        self.done(AND, 50, 0b01010101, 3, (0, 3, True), None, {50: 0b10101010})
        self.done(AND, 178, 255, 3, (255, 3, False), None, {50: 255})

    def test_11_exclusive_or(self):
        self.done(XOR, 50, 0b11001100, 3, (0b01100110, 3, False), None, {50: 0b10101010, 53: 1})
        self.done(XOR, 50, 0b10101010, 3, (0, 3, True), None, {50: 0b10101010})
        self.done(XOR, 178, 255, 3, (1, 3, False), None, {50: 254})


class Others(unittest.TestCase):
    """Instructions that leave a, x and the flags as they are."""

    def unchanged(self, which, n, x, place, wrote):
        for zero, carry in FLAGS:
            for a in (0, 201):
                cells = program({0: [which, n]})
                machine = machine_of(cells, a, x, 0, zero, carry)
                self.assertIs(do_instruction(machine), which % 16 == REST)
                self.assertEqual(all_of(machine), (a, x, place, zero, carry))
                self.assertEqual(machine.written, wrote)
                if wrote is not None:
                    cells[wrote] = a
                self.assertEqual(machine.cells, cells)

    def test_0_rest(self):
        self.unchanged(REST, 0, 3, 2, None)
        self.unchanged(REST, 77, 3, 2, None)

    def test_3_a_is_put_at_n(self):
        for n, place in ((50, 50), (0, 0), (1, 1), (127, 127), (128, 0), (178, 50), (255, 127)):
            self.unchanged(PUT_A, n, 3, 2, place)

    def test_5_a_is_put_at_n_and_x(self):
        for n, x, place in ((50, 3, 53), (50, 0, 50), (100, 27, 127), (100, 28, 0), (120, 200, 64), (255, 255, 126)):
            self.unchanged(PUT_A_X, n, x, 2, place)

    def test_12_jump(self):
        for n, place in ((50, 50), (0, 0), (127, 127), (128, 0), (255, 127)):
            self.unchanged(JUMP, n, 3, place, None)

    def test_13_to_15_jump_if(self):
        for zero, carry in FLAGS:
            for which, jumps in ((JUMP_Z, zero), (JUMP_NOT_Z, not zero), (JUMP_C, carry)):
                for a, x in ((0, 0), (5, 0), (0, 5)):
                    for n, place in ((50, 50), (128, 0), (255, 127)):
                        machine = machine_of(program({0: [which, n]}), a, x, 0, zero, carry)
                        self.assertIs(do_instruction(machine), False)
                        self.assertEqual(all_of(machine), (a, x, place if jumps else 2, zero, carry))

    def test_first_byte_modulo_16(self):
        for which in range(16):
            for more in range(16, 256, 16):
                machines = []
                for first in (which, which + more):
                    cells = program({0: [first, 50], 50: [9, 8, 7]})
                    machine = machine_of(cells, 200, 2, 0, False, True)
                    rested = do_instruction(machine)
                    machines.append((rested, all_of(machine), machine.cells[2:], machine.written))
                self.assertEqual(machines[0], machines[1])


class Places(unittest.TestCase):
    def test_instruction_at_place_127(self):
        machine = machine_of(program({127: [A_IS_N, 44]}), 0, 0, 127)
        do_instruction(machine)
        self.assertEqual(all_of(machine), (44, 0, 1, False, False))

    def test_instruction_at_place_126(self):
        machine = machine_of(program({126: [A_IS_N, 44]}), 0, 0, 126)
        do_instruction(machine)
        self.assertEqual(all_of(machine), (44, 0, 0, False, False))

    def test_pad_as_the_first_byte_of_an_instruction(self):
        # The pad is a jump at 127, and the byte at 0, which is 12 too, says where to.
        self.assertEqual(ask(begin(JUMP, 127), pads(JUMP, REST), step(2), step(1), step(9)), [
            [0], [2, 4], [2, 2, 0, 2, 12], [1, 3, 1, 0, 14], [1, 4, 2, 0, 16]])
        self.assertEqual(ask(begin(JUMP, 127), pads(REST), step(9)), [[0], [1, 2], [2, 2, 1, 0, 1]])

    def test_write_beyond_127_through_the_calls(self):
        cells = [A_IS_N, 9, X_IS_N, 100, PUT_A_X, 60]
        self.assertEqual(last(begin(*cells), pads(0), watch(32), GO), [2, 3, 0, 3, 6])
        self.assertEqual(last(begin(*cells), pads(0), watch(31), GO), [0, 4, 1, 0, 8])


class OwnBytes(unittest.TestCase):
    def test_program_changes_its_second_byte(self):
        cells = [A_IS_N, 90, PUT_A, 5, JUMP, 0]
        self.assertEqual(last(begin(*cells), pads(0), step(3)), [3, 3, 0, 3, 90])

    def test_program_changes_its_first_byte(self):
        # The rest at 4 has become a jump, so the frame goes on.
        cells = [A_IS_N, JUMP, PUT_A, 4, REST, 60]
        self.assertEqual(last(begin(*cells), pads(0), step(3)), [3, 3, 0, 3, 60])

    def test_program_writes_over_the_instruction_being_done(self):
        # What is done is what stood there ahead of it.
        cells = [A_IS_N, JUMP, PUT_A, 2, JUMP, 2]
        self.assertEqual(ask(begin(*cells), pads(0), step(2), step(1), step(1))[2:],
                         [[2, 2, 0, 2, 4], [1, 3, 0, 3, 2], [1, 4, 0, 4, 2]])

    def test_going_back_the_bytes_are_as_they_were(self):
        cells = [A_IS_BYTE, 7, ADD, 20, PUT_A, 7, JUMP, 30]
        cells = program({0: cells, 20: [2], 32: [A_IS_BYTE, 7], 34: [JUMP, 0]})
        there = ask(begin(*cells), pads(0), *[step(1)] * 30)
        again = ask(begin(*cells), pads(0), step(30), [3, 30], *[step(1)] * 30)
        self.assertEqual(again[4:], there[2:])


if __name__ == "__main__":
    unittest.main()
