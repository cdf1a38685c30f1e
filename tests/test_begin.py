"""begin: how the machine is loaded, what is refused, and that all is as at the beginning."""

import unittest

from tests.calling import GO, REWIND, STATE, UNPOKE, WHERE, A_IS_N, JUMP, JUMP_C, JUMP_NOT_Z, JUMP_Z, PUT_A, PUT_A_X
from tests.calling import ask, back, begin, bytes_at, last, pads, poke, program, step, stop, to, watch, wrote


class Loaded(unittest.TestCase):
    def test_answers_0(self):
        self.assertEqual(ask(begin(), begin(1, 2, 3), begin(*[255] * 128), begin(*[0] * 128)), [[0]] * 4)

    def test_no_bytes_are_all_0(self):
        # Rests all over: each frame is one instruction, two places further.
        self.assertEqual(ask(begin(), pads(9, 9), step(1), step(1)),
                         [[0], [2, 2], [1, 1, 1, 0, 2], [1, 2, 2, 0, 4]])

    def test_new_list_is_as_begun_with_none(self):
        self.assertEqual(ask(pads(9, 9), step(1), step(1)), ask(begin(), pads(9, 9), step(1), step(1))[1:])

    def test_some_bytes_from_place_0_on_and_0_behind(self):
        # The jump's second byte isn't there: it's 0 behind the bytes, so it jumps to 0.
        self.assertEqual(last(begin(JUMP), pads(0), step(1)), [1, 1, 0, 1, 0])
        self.assertEqual(last(begin(JUMP, 5), pads(0), step(1)), [1, 1, 0, 1, 5])
        self.assertEqual(last(begin(JUMP, 5), pads(0), step(2)), [2, 2, 1, 0, 7])

    def test_128_bytes(self):
        cells = program({0: [JUMP, 125], 125: [JUMP, 90]})
        self.assertEqual(last(begin(*cells), pads(0), step(2)), [2, 2, 0, 2, 90])

    def test_z_is_set_c_is_not(self):
        self.assertEqual(last(begin(JUMP_Z, 40), pads(0), step(1)), [1, 1, 0, 1, 40])
        self.assertEqual(last(begin(JUMP_NOT_Z, 40), pads(0), step(1)), [1, 1, 0, 1, 2])
        self.assertEqual(last(begin(JUMP_C, 40), pads(0), step(1)), [1, 1, 0, 1, 2])

    def test_a_and_x_are_0(self):
        self.assertEqual(last(begin(PUT_A_X, 50), pads(0), watch(50), GO), [2, 1, 0, 1, 2])
        self.assertEqual(last(begin(PUT_A, 3, JUMP, 9), pads(0), step(2)), [2, 2, 0, 2, 0])

    def test_bytes_0_and_255(self):
        self.assertEqual(ask(begin(JUMP, 255), pads(0), step(1)), [[0], [1, 2], [1, 1, 0, 1, 127]])


class Refused(unittest.TestCase):
    def test_more_than_128_bytes(self):
        for many in (129, 130, 199, 200):
            self.assertEqual(ask(begin(*[0] * many)), [[-1]])

    def test_a_byte_that_is_none(self):
        for wrong in (-1, 256, -1000000, 1000000):
            for cells in ([wrong], [0, wrong], [wrong, 0], [1] * 60 + [wrong] + [1] * 60, [255] * 127 + [wrong]):
                self.assertEqual(ask(begin(*cells)), [[-1]], cells)

    def test_both_at_once(self):
        self.assertEqual(ask(begin(*[256] * 129)), [[-1]])

    def test_nothing_has_changed(self):
        told = [begin(A_IS_N, 7, PUT_A, 20, JUMP, 0), pads(1, 2), stop(2), stop(4), watch(20), step(305)]
        asked = [step(0), stop(2), watch(20), back(301), GO, GO, GO, pads(3), step(5)]
        plain = ask(*told, *asked)
        for wrong in (begin(*[0] * 129), begin(256), begin(-1), begin(0, 0, 256)):
            self.assertEqual(ask(*told, wrong, *asked), plain[:6] + [[-1]] + plain[6:])


class Again(unittest.TestCase):
    def test_all_is_as_at_the_beginning(self):
        told = [begin(A_IS_N, 7, PUT_A, 20, JUMP, 0), pads(1, 2), stop(2), stop(4), watch(20), step(305)]
        asked = [step(0), back(1), step(1), GO, stop(6), watch(6), pads(5, 5), GO, GO, GO]
        fresh = ask(begin(A_IS_N, 9), *asked)
        self.assertEqual(ask(*told, begin(A_IS_N, 9), *asked)[6:], fresh)
        self.assertEqual(fresh, [
            [0], [0, 0, 0, 0, 0], [0, 0, 0, 0, 0], [0, 0, 0, 0, 0], [0, 0, 0, 0, 0], [1], [1], [2, 3],
            [0, 3, 2, 0, 6], [0, 3, 2, 0, 6], [0, 3, 2, 0, 6]])

    def test_what_the_run_wrote_is_gone(self):
        cells = [A_IS_N, JUMP, PUT_A, 4, 0, 80]
        asked = [pads(1), step(1000)]
        self.assertEqual(ask(begin(*cells), *asked)[1:], ask(begin(*cells), *asked, begin(*cells), *asked)[4:])

    # Each of the calls, about a run that is gone when begin comes again.
    ALL = [
        begin(A_IS_N, 7, PUT_A, 20, JUMP, 0), pads(1, 2), stop(2), watch(20), GO, GO, step(9), back(2), to(305), REWIND,
        WHERE, STATE, wrote(20), poke(1, 9), poke(0, 12), UNPOKE, to(400), poke(60, 3), poke(127, 3)]

    def test_behind_all_calls(self):
        answered = ask(*self.ALL, begin(A_IS_N, 9), WHERE, STATE, wrote(20), GO, REWIND, UNPOKE, pads())[len(self.ALL):]
        self.assertEqual(answered, [
            [0], [0, 0, 0, 0, 0], [0, 0, 0, 1, 0, A_IS_N, 9] + [0] * 126, [0], [0, 0, 0, 0, 0], [0, 0, 0, 0, 0], [-7],
            [0, 0]])

    def test_nothing_is_changed_by_hand_any_more(self):
        asked = [pads(5), poke(90, 1), *[call for n in range(3) for call in (to(n), STATE)], UNPOKE, UNPOKE]
        self.assertEqual(ask(*self.ALL, begin(A_IS_N, 9), *asked)[len(self.ALL):], ask(begin(A_IS_N, 9), *asked))
        # Where the changes stood in the run before, nothing changes in the new one.
        again = [*self.ALL, begin(JUMP, 0), pads(4, 5)]
        self.assertEqual(bytes_at(again, 60, (305, 400, 600)), [0, 0, 0])
        self.assertEqual(bytes_at(again, 127, (299, 400, 600)), [4, 5, 5])

    def test_no_stops_and_watches_any_more(self):
        told = [*self.ALL, begin(A_IS_N, 7, PUT_A, 20, JUMP, 0), pads(1, 2)]
        self.assertEqual(ask(*told, GO, REWIND, stop(9), watch(9))[len(told):], [
            [0, 600, 2, 0, 0], [0, 0, 0, 0, 0], [1], [1]])

    def test_refused_all_stays(self):
        asked = [WHERE, STATE, wrote(20), REWIND, GO, stop(2), watch(20), UNPOKE, STATE, UNPOKE, UNPOKE, STATE, UNPOKE]
        plain = ask(*self.ALL, *asked)
        many = len(self.ALL)
        self.assertEqual(plain[-1], [-7])
        self.assertEqual(ask(*self.ALL, begin(256), *asked), plain[:many] + [[-1]] + plain[many:])


if __name__ == "__main__":
    unittest.main()
