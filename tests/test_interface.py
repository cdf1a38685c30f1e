"""answers: one flat list in, one flat list out, nothing changed and nothing kept."""

import inspect
import unittest

from backwardrun import runs
from backwardrun.runs import answers
from tests.calling import BUSY, GO, REWIND, STATE, UNPOKE, WHERE, A_IS_N, JUMP, PUT_A
from tests.calling import ask, back, begin, flat, pads, poke, split, step, stop, to, watch, wrote

MIXED = flat([
    begin(A_IS_N, 5, PUT_A, 60, JUMP, 0), pads(1, 2), stop(4), watch(60), GO, GO, step(7), back(3), step(-1),
    stop(128, 1), begin(256), pads(-1), pads(*[0] * 19), stop(4, 0), GO, step(1000), pads(3), GO,
    REWIND, to(70), WHERE, STATE, wrote(60), poke(60, 9), poke(0, 12), STATE, to(2), poke(127, 9), to(-1), wrote(128),
    poke(5, 256), UNPOKE, WHERE, REWIND, wrote(60), begin(A_IS_N, 5, PUT_A, 60), UNPOKE, poke(7, 7), pads(4), STATE])


class Flat(unittest.TestCase):
    def test_how_many_then_these(self):
        self.assertEqual(answers([0, 2, 1, 5, 1, 1, 7, 2, 1, 3, 1, 4, 2, 1, 5, 3, 1, 6]), [
            1, 0, 2, 1, 2, 5, 1, 1, 0, 1, 2, 5, 1, 0, 0, 0, 0, 1, 1, 1, 1, 5, 1, 1, 0, 1, 2])

    def test_each_of_the_14_calls(self):
        told = [0, 4, 1, 7, 3, 60, 1, 1, 9, 2, 1, 3, 1, 4, 2, 1, 5, 60, 1, 6, 6, 7, 8, 3, 9, 11, 60, 12, 60, 5, 10, 13]
        state = [7, 0, 6, 0, 0, 1, 7, 3, 60] + [0] * 56 + [5] + [0] * 66 + [9]
        self.assertEqual(answers(told), [
            1, 0, 2, 1, 3, 5, 1, 1, 0, 1, 2, 5, 1, 0, 0, 0, 0, 1, 1, 1, 1, 5, 1, 1, 0, 1, 2, 5, 2, 2, 0, 2, 4,
            5, 1, 1, 0, 1, 2, 4, 3, 1, 0, 6, 5, 3, 1, 0, 6, 3, 6, 1, 1, 0, 2, 0, 7, 2, 1, 3,
            133, *state, 4, 3, 1, 0, 6])

    def test_how_many_each_answers(self):
        told = [begin(), pads(1), step(1), back(1), stop(1), watch(1), GO, REWIND, to(0), WHERE, STATE, wrote(1),
                poke(1, 1), UNPOKE]
        self.assertEqual([call[0] for call in told], list(range(14)))
        self.assertEqual([len(answer) for answer in ask(*told)], [1, 2, 5, 5, 1, 1, 5, 5, 4, 5, 133, 1, 2, 4])
        self.assertEqual(len(ask(begin(PUT_A, 9), pads(1), step(1), wrote(9))[-1]), 6)

    def test_no_number_but_a_refusal_is_below_0(self):
        for answer in split(answers(MIXED)):
            self.assertTrue(min(answer) >= 0 or answer in ([-1], [-3], [-5], [-7]), answer)

    def test_empty_rows(self):
        self.assertEqual(answers([0, 0, 1, 0, 0, 0]), [1, 0, 2, 0, 0, 1, 0])

    def test_a_refusal_is_its_number_alone(self):
        self.assertEqual(answers([0, 1, 256]), [1, -1])
        self.assertEqual(answers([1, 1, 256]), [1, -1])
        self.assertEqual(answers([1, 21] + [0] * 21), [1, -5])
        self.assertEqual(answers([2, -1, 3, -1, 4, -1, 1, 5, 0, 2]), [1, -1] * 4)
        self.assertEqual(answers([8, 1, 11, 128, 12, 0, 256, 12, -1, 0, 13]), [1, -3, 1, -1, 1, -1, 1, -1, 1, -7])
        self.assertEqual(answers([12, 0, 0] * 21)[-5:], [2, 20, 0, 1, -5])

    def test_a_refused_call_s_numbers_are_passed_over(self):
        # What stands in refused rows looks like calls.
        self.assertEqual(answers([0, 3, 6, 6, 256, 1, 3, 6, 6, -1, 0, 200] + [6] * 200 + [6]), [
            1, -1, 1, -1, 1, -1, 5, 0, 0, 0, 0, 0])

    def test_rows_of_200(self):
        self.assertEqual(answers([1, 200] + [0] * 200 + [2, 0]), [1, -5, 5, 0, 0, 0, 0, 0])

    def test_only_whole_numbers(self):
        answered = answers(MIXED)
        self.assertIs(type(answered), list)
        self.assertEqual({type(number) for number in answered}, {int})

    def test_60_calls(self):
        calls = [begin(JUMP, 0), pads(*[9] * 20)] + [step(150), back(50)] * 29
        expected = [[0], [20, 6000]]
        done = 0
        for turn in range(29):
            for many in (150, -50):
                done += many
                expected.append([abs(many), done, done // 300, done % 300, 0])
        self.assertEqual(len(calls), 60)
        self.assertEqual(ask(*calls), expected)

    def test_60_of_the_longest_calls(self):
        calls = flat([begin(*[1] * 200)] * 60)
        self.assertEqual(len(calls), 12120)
        self.assertEqual(answers(calls), [1, -1] * 60)

    def test_60_calls_about_the_longest_run(self):
        self.assertEqual(ask(*[begin(JUMP, 0), pads(*[9] * 20)] * 30), [[0], [20, 6000]] * 30)

    def test_60_calls_about_the_longest_run_with_20_changes_by_hand(self):
        # Each change makes the jump at 0 go to itself by another second byte: modulo 128 it's the same.
        changes = [call for n in range(20) for call in (to(300 * n + n), poke(1, 128 * (n % 2)))]
        asked = [WHERE, STATE, GO, REWIND, to(6000), STATE, *[UNPOKE] * 10, WHERE, STATE]
        calls = [begin(JUMP, 0), pads(*range(20)), *changes, *asked]
        self.assertEqual(len(calls), 60)
        answered = ask(*calls)
        self.assertEqual(answered[1], [20, 6000])
        self.assertEqual(answered[3:42:2], [[many, 6000] for many in range(1, 21)])
        state = [0, 0, 0, 1, 0, JUMP, 128] + [0] * 125 + [19]
        self.assertEqual(answered[42:48], [
            [5719, 19, 19, 0, 6000], state, [0, 6000, 20, 0, 0], [0, 0, 0, 0, 0], [6000, 20, 0, 0], state])
        self.assertEqual(answered[48:58], [[301 * n, n, n, 0] for n in range(19, 9, -1)])
        self.assertEqual(answered[58:], [
            [3010, 10, 10, 0, 6000], [0, 0, 0, 1, 0, JUMP, 128] + [0] * 125 + [10]])

    def test_60_calls_that_each_answer_much(self):
        answered = ask(*BUSY, *[STATE] * 58)
        self.assertEqual(answered[2:], [answered[2]] * 58)


def refuse(*told):
    raise AssertionError("what is handed in was changed")


class Guarded(list):
    """A list that can't be changed, not for a while either."""

    append = extend = insert = pop = remove = clear = sort = reverse = refuse
    __setitem__ = __delitem__ = __iadd__ = __imul__ = refuse


class Kept(unittest.TestCase):
    def test_what_is_handed_in_is_not_changed_for_a_while_either(self):
        self.assertEqual(answers(Guarded(MIXED)), answers(list(MIXED)))

    def test_what_is_handed_in_is_not_changed(self):
        calls = list(MIXED)
        answers(calls)
        self.assertEqual(calls, MIXED)

    def test_what_is_given_back_is_new(self):
        calls = list(MIXED)
        first = answers(calls)
        first.append(1)
        self.assertEqual(answers(calls), first[:-1])

    def test_twice_the_same(self):
        self.assertEqual(answers(MIXED), answers(MIXED))

    def test_nothing_is_kept_from_one_time_to_the_next(self):
        fresh = [[0, 0, 0, 0, 0], [0, 0, 0, 1, 0] + [0] * 128, [-7], [0, 0, 0, 0, 0], [1], [1], [1, 1], [1, 1],
                 [0, 1, 1, 0, 2], [0]]
        asked = [WHERE, STATE, UNPOKE, step(5), stop(9), watch(9), pads(4), poke(9, 9), GO, wrote(60)]
        self.assertEqual(ask(*asked), fresh)
        answers(MIXED)
        self.assertEqual(ask(*asked), fresh)


class Signature(unittest.TestCase):
    def test_name_and_argument(self):
        self.assertEqual(str(inspect.signature(runs.answers)), "(calls)")
        self.assertEqual(runs.answers.__module__, "backwardrun.runs")


if __name__ == "__main__":
    unittest.main()
