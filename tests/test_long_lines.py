"""Lines of 400 calls on the largest games: every call ends, and the whole list is answered in a bearable time."""

import random
import time
import unittest
from itertools import product

from tests.helper import encode, model_run, run, split
from tests.thrown import FOR_TWICE, LARGEST, loose_game, parity_game, tight_game
from twoaskedapart.plans import answers

MOST_CALLS = 400
MOST_NUMBERS = 4800
# Far more than is needed, so that only what would grow without bounds is refused here.
BEARABLE_SECONDS = 30

ASKED = [
    ("value", [3, 2, 1, 0, 1, 2]), ("best",), ("reply", [3, 0, 2]), ("replyto", [1, 3, 3]), ("plans", 3), ("nth", 3, 30),
    ("perfect",), ("core",), ("told", 1), ("told", 2), ("told", 3), ("twice",), ("pair", 2, 2), ("game",),
]


class LongLines(unittest.TestCase):
    def answered_in_time(self, calls):
        numbers = encode(calls)
        self.assertLessEqual(len(calls), MOST_CALLS)
        self.assertLessEqual(len(numbers), MOST_NUMBERS)
        start = time.monotonic()
        answered = split(answers(numbers))
        self.assertLess(time.monotonic() - start, BEARABLE_SECONDS)
        self.assertEqual(len(answered), len(calls))
        return answered

    def asked_over_and_over(self, told, call):
        expected = model_run(told + [call])[-1]
        times = MOST_CALLS - len(told)
        self.assertEqual(self.answered_in_time(told + [call] * times)[len(told):], [expected] * times)

    def test_each_call_on_largest_games(self):
        dice = random.Random(2022)
        for told in [tight_game(dice, LARGEST, (1, 2, 99)), parity_game(dice, LARGEST, (1,)),
                     loose_game(dice, LARGEST, 0.3, (1,))]:
            for call in ASKED:
                self.asked_over_and_over(told, call)

    def test_twice_on_the_largest_games_for_it(self):
        dice = random.Random(2023)
        for told in [parity_game(dice, FOR_TWICE, (99,)), loose_game(dice, FOR_TWICE, 0.6, (1, 2, 99))]:
            self.asked_over_and_over(told, ("twice",))

    def test_all_calls_in_turn(self):
        dice = random.Random(2024)
        for sizes in (LARGEST, FOR_TWICE):
            told = tight_game(dice, sizes, (1, 1, 2))
            x, y, a, b = sizes
            turn = [("value", [0] * (x + y)), ("value", [0]), ("best",), ("reply", [a - 1] * x), ("replyto", [b - 1] * y),
                    ("plans", 2), ("nth", 2, 3), ("perfect",), ("core",), ("told", 2), ("told", 3), ("twice",), ("swap",),
                    ("pair", 1, 0), ("game",)]
            answered = self.answered_in_time((told + turn * 27)[:MOST_CALLS])
            expected = model_run(told + turn * 2)[len(told):]
            self.assertEqual(answered[len(told):], (expected * 27)[:len(answered) - len(told)])

    def test_swaps(self):
        told = [("begin", 2, 3, 4, 1), ("wins", 1, 2, 3, 0, 1), ("counts", 1, 2, 9)]
        answered = self.answered_in_time(told + [("swap",)] * 395 + [("game",), ("pair", 2, 1)])
        self.assertEqual(answered[3:], [[0]] * 395 + [[3, 2, 1, 4, 14, 9], [9, 0, 0, 0, 1]])

    def test_begins(self):
        calls = [("begin", *LARGEST), ("wins", 2, 2, 3, 3, 1), ("counts", 2, 2, 99), ("best",)] * 100
        self.assertEqual(self.answered_in_time(calls), [[0], [0], [1], [99, 107, 0, 0, 3, 0, 0, 3]] * 100)

    def test_longest_lists_of_numbers(self):
        calls = [("begin", *LARGEST)] + [("value", [3] * 10)] * 399
        self.assertEqual(len(encode(calls)), 4793)
        self.assertEqual(self.answered_in_time(calls), [[0]] + [[-22]] * 399)

    def test_all_that_can_be_told(self):
        spots = list(product(*[range(size) for size in LARGEST]))
        calls = [("begin", *LARGEST)] + [("wins", *spot, 1) for spot in spots] * 2 + [("perfect",), ("core",), ("game",)]
        self.assertEqual(self.answered_in_time(calls)[1:],
                         [[0]] * 144 + [[1]] * 144 + [[1], [-33], [3, 3, 4, 4, 9, 9]])

    def test_one_call(self):
        self.assertEqual(run([("best",)]), [[-11]])
        self.assertEqual(run([("begin", 1, 1, 1, 1)]), [[0]])


if __name__ == "__main__":
    unittest.main()
