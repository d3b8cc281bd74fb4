"""Lines of calls thrown by a fixed seed, compared with a model that tries every plan."""

import random
import unittest

from tests.helper import FAR, encode, model_run, run, split
from twoaskedapart.plans import answers

SMALL = (2, 2, 3, 3)
LARGEST = (3, 3, 4, 4)


def below(dice, size):
    """Mostly a number that there is, at times one just outside or far outside."""
    return dice.choice([size, size + 1, 100, FAR]) if dice.random() < 0.06 else dice.randrange(size)


def row(dice, parts):
    """Mostly a row as told, at times too short, too long or with answers that there are not."""
    told = [below(dice, choices) for questions, choices in parts for one in range(questions)]
    if dice.random() < 0.1:
        told = (told + [dice.randrange(4) for one in range(10)])[:dice.randrange(11)]
    return told


def begin(dice, most):
    if dice.random() < 0.1:
        return ("begin", *[dice.choice([0, 1, size, size + 1, 5, FAR]) for size in most])
    return ("begin", *[dice.randint(1, size) for size in most])


def setting(dice, sizes):
    x, y, a, b = sizes
    name = dice.choice(["wins", "wins", "wins", "odd", "counts"])
    if name == "wins":
        return (name, below(dice, x), below(dice, y), below(dice, a), below(dice, b),
                dice.choice([0, 1, 1, 1, 1, below(dice, 2)]))
    if name == "odd":
        return (name, below(dice, x), below(dice, y), below(dice, 2))
    return (name, below(dice, x), below(dice, y), dice.choice([0, 1, 2, 3, 99, below(dice, 100)]))


def asking(dice, sizes):
    x, y, a, b = sizes
    name = dice.choice(["value", "best", "reply", "replyto", "plans"])
    if name == "best":
        return (name,)
    if name == "plans":
        return (name, dice.choice([0, 1, 2, 3, 4, 5, 6, 99, 100, FAR]))
    parts = {"value": [(x, a), (y, b)], "reply": [(x, a)], "replyto": [(y, b)]}[name]
    return (name, row(dice, parts))


def line(dice, most, length):
    calls = []
    sizes = most
    for at in range(length):
        if dice.random() < (0.6 if at == 0 else 0.02):
            calls.append(begin(dice, most))
            if 0 < min(calls[-1][1:]) and all(told <= size for told, size in zip(calls[-1][1:], LARGEST)):
                sizes = calls[-1][1:]
        else:
            calls.append(setting(dice, sizes) if dice.random() < 0.65 else asking(dice, sizes))
    return calls


class AgainstModel(unittest.TestCase):
    def test_short_lines_of_small_games(self):
        dice = random.Random(1964)
        for time in range(150):
            calls = line(dice, SMALL, dice.randint(1, 40))
            self.assertEqual(run(calls), model_run(calls), calls)

    def test_lines_of_games_of_all_sizes(self):
        dice = random.Random(1969)
        for time in range(12):
            calls = [("begin", *[dice.randint(1, size) for size in LARGEST])] + line(dice, LARGEST, 40)
            self.assertEqual(run(calls), model_run(calls), calls)

    def test_largest_games(self):
        dice = random.Random(1995)
        for time in range(4):
            told = [setting(dice, LARGEST) for one in range(dice.choice([20, 60, 150]))]
            asked = [("best",), ("plans", 2), ("reply", [3, 0, 2]), ("replyto", [1, 3, 3]),
                     ("value", [3, 2, 1, 0, 1, 2])]
            calls = [("begin", *LARGEST)] + told + asked
            self.assertEqual(run(calls), model_run(calls), calls)

    def test_refused_calls_left_out(self):
        dice = random.Random(1980)
        for time in range(60):
            calls = line(dice, LARGEST, 120)
            answered = run(calls)
            kept = [at for at in range(len(calls)) if answered[at][0] >= 0]
            if kept:
                self.assertEqual(run([calls[at] for at in kept]), [answered[at] for at in kept])


class WhatHolds(unittest.TestCase):
    def test_best_and_replies(self):
        dice = random.Random(2005)
        for time in range(60):
            sizes = [dice.randint(1, size) for size in LARGEST]
            told = [("begin", *sizes)] + [setting(dice, sizes) for one in range(80)]
            x, y, a, b = sizes
            best = run(told + [("best",)])[-1]
            first, second = best[2:2 + x], best[2 + x:]
            asked = [("value", best[2:]), ("reply", first), ("replyto", second), ("plans", best[0])]
            value, reply, replyto, plans = run(told + asked)[-4:]
            self.assertEqual(value, best[:2])
            self.assertEqual(reply, [best[0]] + second)
            self.assertEqual(replyto[0], best[0])
            self.assertGreater(plans[0], 0)
            self.assertEqual(run(told + [("plans", best[0] + 1)])[-1], [0, a ** x * b ** y])

    def test_counts_of_plans_add_up(self):
        dice = random.Random(2012)
        for time in range(10):
            told = [("begin", *LARGEST)] + [("odd", x, y, dice.randrange(2)) for x in range(3) for y in range(3)]
            asked = [("plans", t) for t in range(10)]
            answered = run(told + asked)[-10:]
            self.assertEqual(sum(just for just, in_all in answered), 4096)
            self.assertEqual({in_all for just, in_all in answered}, {4096})


class LongLines(unittest.TestCase):
    def test_longest_lines_of_the_largest_games(self):
        dice = random.Random(2022)
        told = [("begin", *LARGEST)] + [setting(dice, LARGEST) for one in range(100)]
        best, plans = model_run(told + [("best",), ("plans", 5)])[-2:]
        for call, expected in [(("best",), best), (("plans", 5), plans)]:
            given = split(answers(encode(told + [call] * 299)))
            self.assertEqual(len(given), 400)
            self.assertEqual(given[101:], [expected] * 299)

    def test_longest_lists_of_numbers(self):
        calls = [("begin", *LARGEST)] + [("value", [3] * 10)] * 399
        self.assertLessEqual(len(encode(calls)), 4800)
        self.assertEqual(run(calls), [[0]] + [[-22]] * 399)

    def test_many_begins(self):
        calls = [("begin", *LARGEST), ("wins", 2, 2, 3, 3, 1), ("counts", 2, 2, 99), ("best",)] * 100
        self.assertEqual(run(calls), [[0], [0], [1], [99, 107, 0, 0, 3, 0, 0, 3]] * 100)


if __name__ == "__main__":
    unittest.main()
