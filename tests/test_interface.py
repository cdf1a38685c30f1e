"""answers: one flat list in, one flat list out, nothing changed and nothing kept."""

import inspect
import unittest

from backwardrun import runs
from backwardrun.runs import answers
from tests.calling import GO, A_IS_N, JUMP, PUT_A
from tests.calling import ask, back, begin, flat, pads, step, stop, watch

MIXED = flat([
    begin(A_IS_N, 5, PUT_A, 60, JUMP, 0), pads(1, 2), stop(4), watch(60), GO, GO, step(7), back(3), step(-1),
    stop(128, 1), begin(256), pads(-1), pads(*[0] * 19), stop(4, 0), GO, step(1000), pads(3), GO])


class Flat(unittest.TestCase):
    def test_how_many_then_these(self):
        self.assertEqual(answers([0, 2, 1, 5, 1, 1, 7, 2, 1, 3, 1, 4, 2, 1, 5, 3, 1, 6]), [
            1, 0, 2, 1, 2, 5, 1, 1, 0, 1, 2, 5, 1, 0, 0, 0, 0, 1, 1, 1, 1, 5, 1, 1, 0, 1, 2])

    def test_empty_rows(self):
        self.assertEqual(answers([0, 0, 1, 0, 0, 0]), [1, 0, 2, 0, 0, 1, 0])

    def test_a_refusal_is_its_number_alone(self):
        self.assertEqual(answers([0, 1, 256]), [1, -1])
        self.assertEqual(answers([1, 1, 256]), [1, -1])
        self.assertEqual(answers([1, 21] + [0] * 21), [1, -5])
        self.assertEqual(answers([2, -1, 3, -1, 4, -1, 1, 5, 0, 2]), [1, -1] * 4)

    def test_a_refused_call_s_numbers_are_passed_over(self):
        # What stands in refused rows looks like calls.
        self.assertEqual(answers([0, 3, 6, 6, 256, 1, 3, 6, 6, -1, 0, 200] + [6] * 200 + [6]), [
            1, -1, 1, -1, 1, -1, 5, 0, 0, 0, 0, 0])

    def test_rows_of_200(self):
        self.assertEqual(answers([1, 200] + [0] * 200 + [2, 0]), [1, -5, 5, 0, 0, 0, 0, 0])

    def test_only_whole_numbers(self):
        answered = answers(MIXED)
        self.assertIs(type(answered), list)
        self.assertEqual({type(number) for number in answered}, {int})

    def test_60_calls(self):
        calls = [begin(JUMP, 0), pads(*[9] * 20)] + [step(150), back(50)] * 29
        expected = [[0], [20, 6000]]
        done = 0
        for turn in range(29):
            for many in (150, -50):
                done += many
                expected.append([abs(many), done, done // 300, done % 300, 0])
        self.assertEqual(len(calls), 60)
        self.assertEqual(ask(*calls), expected)

    def test_60_of_the_longest_calls(self):
        calls = flat([begin(*[1] * 200)] * 60)
        self.assertEqual(len(calls), 12120)
        self.assertEqual(answers(calls), [1, -1] * 60)

    def test_60_calls_about_the_longest_run(self):
        self.assertEqual(ask(*[begin(JUMP, 0), pads(*[9] * 20)] * 30), [[0], [20, 6000]] * 30)


class Kept(unittest.TestCase):
    def test_what_is_handed_in_is_not_changed(self):
        calls = list(MIXED)
        answers(calls)
        self.assertEqual(calls, MIXED)

    def test_what_is_given_back_is_new(self):
        calls = list(MIXED)
        first = answers(calls)
        first.append(1)
        self.assertEqual(answers(calls), first[:-1])

    def test_twice_the_same(self):
        self.assertEqual(answers(MIXED), answers(MIXED))

    def test_nothing_is_kept_from_one_time_to_the_next(self):
        fresh = [[0, 0, 0, 0, 0], [1], [1], [1, 1], [0, 1, 1, 0, 2]]
        asked = [step(5), stop(9), watch(9), pads(4), GO]
        self.assertEqual(ask(*asked), fresh)
        answers(MIXED)
        self.assertEqual(ask(*asked), fresh)


class Signature(unittest.TestCase):
    def test_name_and_argument(self):
        self.assertEqual(str(inspect.signature(runs.answers)), "(calls)")
        self.assertEqual(runs.answers.__module__, "backwardrun.runs")


if __name__ == "__main__":
    unittest.main()
