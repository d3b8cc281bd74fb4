"""Lines of calls thrown by a fixed seed, compared with a model that tries every plan."""

import random
import unittest

from tests.helper import FAR, NUMBER_OF, model_run, run
from tests.thrown import FOR_TWICE, LARGEST, SMALL


def below(dice, size):
    """Mostly a number that there is, at times one just outside or far outside."""
    return dice.choice([size, size + 1, 100, FAR]) if dice.random() < 0.06 else dice.randrange(size)


def row(dice, parts):
    """Mostly a row as told, at times too short, too long or with answers that there are not."""
    told = [below(dice, choices) for questions, choices in parts for one in range(questions)]
    if dice.random() < 0.1:
        told = (told + [dice.randrange(4) for one in range(10)])[:dice.randrange(11)]
    return told


def begin(dice, most):
    if dice.random() < 0.1:
        return ("begin", *[dice.choice([0, 1, size, size + 1, 5, FAR]) for size in most])
    return ("begin", *[dice.randint(1, size) for size in most])


def setting(dice, sizes):
    x, y, a, b = sizes
    name = dice.choice(["wins", "wins", "wins", "odd", "counts"])
    if name == "wins":
        return (name, below(dice, x), below(dice, y), below(dice, a), below(dice, b),
                dice.choice([0, 1, 1, 1, 1, below(dice, 2)]))
    if name == "odd":
        return (name, below(dice, x), below(dice, y), below(dice, 2))
    return (name, below(dice, x), below(dice, y), dice.choice([0, 1, 2, 3, 99, below(dice, 100)]))


def asking(dice, sizes):
    x, y, a, b = sizes
    name = dice.choice(["value", "best", "reply", "replyto", "plans", "nth", "perfect", "core", "told", "twice", "swap",
                        "pair", "game"])
    if name in ("value", "reply", "replyto"):
        parts = {"value": [(x, a), (y, b)], "reply": [(x, a)], "replyto": [(y, b)]}[name]
        return (name, row(dice, parts))
    t = dice.choice([0, 0, 1, 1, 2, 2, 3, 4, 5, 6, 99, 100, FAR])
    told = {"plans": (t,), "nth": (t, dice.choice([0, 0, 1, 2, 3, 7, 20, 63, 4095, 4096, FAR])),
            "told": (dice.choice([1, 2, 3, 1, 2, 3, 0, 4, FAR]),), "pair": (below(dice, x), below(dice, y))}
    return (name, *told.get(name, ()))


def line(dice, most, length):
    calls = []
    sizes = most
    for at in range(length):
        if dice.random() < (0.6 if at == 0 else 0.02):
            calls.append(begin(dice, most))
            if 0 < min(calls[-1][1:]) and all(told <= size for told, size in zip(calls[-1][1:], LARGEST)):
                sizes = calls[-1][1:]
        else:
            calls.append(setting(dice, sizes) if dice.random() < 0.6 else asking(dice, sizes))
            if calls[-1] == ("swap",):
                sizes = (sizes[1], sizes[0], sizes[3], sizes[2])
    return calls


class AgainstModel(unittest.TestCase):
    def test_short_lines_of_small_games(self):
        dice = random.Random(1964)
        for time in range(150):
            calls = line(dice, SMALL, dice.randint(1, 40))
            self.assertEqual(run(calls), model_run(calls), calls)

    def test_lines_of_games_of_all_sizes(self):
        dice = random.Random(1969)
        for time in range(12):
            calls = [("begin", *[dice.randint(1, size) for size in LARGEST])] + line(dice, LARGEST, 40)
            self.assertEqual(run(calls), model_run(calls), calls)

    def test_lines_of_games_that_can_be_played_twice(self):
        dice = random.Random(1972)
        for time in range(40):
            calls = [("begin", *[dice.randint(1, size) for size in FOR_TWICE])] + line(dice, FOR_TWICE, 60)
            self.assertEqual(run(calls), model_run(calls), calls)

    def test_largest_games(self):
        dice = random.Random(1995)
        for time in range(4):
            told = [setting(dice, LARGEST) for one in range(dice.choice([20, 60, 150]))]
            asked = [("best",), ("plans", 2), ("reply", [3, 0, 2]), ("replyto", [1, 3, 3]), ("nth", 1, 40),
                     ("value", [3, 2, 1, 0, 1, 2]), ("perfect",), ("core",), ("told", 1), ("told", 2), ("told", 3),
                     ("twice",), ("game",), ("swap",), ("best",), ("core",), ("told", 2), ("game",)]
            calls = [("begin", *LARGEST)] + told + asked
            self.assertEqual(run(calls), model_run(calls), calls)

    def test_refused_calls_left_out(self):
        dice = random.Random(1980)
        for time in range(60):
            calls = line(dice, LARGEST, 120)
            answered = run(calls)
            kept = [at for at in range(len(calls)) if answered[at][0] >= 0]
            if kept:
                self.assertEqual(run([calls[at] for at in kept]), [answered[at] for at in kept])

    def test_every_call_and_every_refusal_is_thrown(self):
        dice = random.Random(1964)
        answered = {}
        for time in range(150):
            calls = line(dice, SMALL, dice.randint(1, 40))
            for (name, *told), given in zip(calls, run(calls)):
                answered.setdefault(name, set()).add(min(given[0], 0))
        self.assertEqual(set(answered), set(NUMBER_OF))
        refusals = {"begin": {-22}, "wins": {-2, -11, -22}, "odd": {-2, -11, -22}, "counts": {-2, -11, -22},
                    "value": {-11, -22}, "best": {-11}, "reply": {-11, -22}, "replyto": {-11, -22}, "plans": {-11},
                    "nth": {-11, -33}, "perfect": {-11}, "core": {-11, -33}, "told": {-11, -22}, "twice": {-11, -28},
                    "swap": {-11}, "pair": {-2, -11}, "game": {-11}}
        self.assertEqual(answered, {name: refused | {0} for name, refused in refusals.items()})


if __name__ == "__main__":
    unittest.main()
