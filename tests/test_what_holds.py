"""What holds, a to f, over many games thrown by a fixed seed."""

import random
import unittest
from itertools import combinations, product

from tests.helper import last, run, told_exchanged
from tests.thrown import FOR_TWICE, LARGEST, SMALL, pairs_of, thrown_game, thrown_games, tight_game


def asked_of(told, *calls):
    return run(told + list(calls))[len(told):]


def plans_of(sizes):
    x, y, a, b = sizes
    return [list(plan) for plan in product(*[range(a)] * x, *[range(b)] * y)]


def won_by_all(told, sizes):
    """What each plan wins, in the order of the plans, in as many lines as it takes."""
    plans = plans_of(sizes)
    room = 400 - len(told)
    won = []
    for at in range(0, len(plans), room):
        won += [answered[0] for answered in asked_of(told, *[("value", plan) for plan in plans[at:at + room]])]
    return won


class NoPlanWinsMore(unittest.TestCase):
    """a"""

    def test_than_the_best(self):
        for sizes, told in thrown_games(random.Random(1), 60, SMALL):
            best = last(*told, ("best",))
            won = won_by_all(told, sizes)
            self.assertEqual(max(won), best[0])
            self.assertEqual(plans_of(sizes)[won.index(best[0])], best[2:])
            self.assertEqual(last(*told, ("nth", best[0], 0)), [sizes[0] + sizes[1]] + best[2:])

    def test_no_mixture_does(self):
        dice = random.Random(2)
        for sizes, told in thrown_games(dice, 40, SMALL):
            won = won_by_all(told, sizes)
            most = last(*told, ("best",))[0]
            for time in range(5):
                faces = [dice.randrange(10) for plan in won]
                self.assertLessEqual(sum(one * face for one, face in zip(won, faces)), most * sum(faces))

    def test_in_larger_games(self):
        for sizes, told in thrown_games(random.Random(3), 25, LARGEST):
            x, y, a, b = sizes
            best = last(*told, ("best",))
            self.assertEqual(asked_of(told, ("value", best[2:])), [best[:2]])
            plans = asked_of(told, *[("plans", best[0] + more) for more in (0, 1, 2, 3, 99)])
            self.assertGreater(plans[0][0], 0)
            self.assertEqual(plans[1:], [[0, a ** x * b ** y]] * 4)


class WhatIsToldAsReplyIsBest(unittest.TestCase):
    """b"""

    def test_to_what_the_first_does(self):
        dice = random.Random(4)
        for (x, y, a, b), told in thrown_games(dice, 40, (3, 2, 4, 3)):
            first = [dice.randrange(a) for one in range(x)]
            replied = last(*told, ("reply", first))
            others = [list(second) for second in product(range(b), repeat=y)]
            won = [answered[0] for answered in asked_of(told, *[("value", first + second) for second in others])]
            self.assertEqual(max(won), replied[0])
            self.assertEqual(others[won.index(max(won))], replied[1:])

    def test_to_what_the_second_does(self):
        dice = random.Random(5)
        for (x, y, a, b), told in thrown_games(dice, 40, (2, 3, 3, 4)):
            second = [dice.randrange(b) for one in range(y)]
            replied = last(*told, ("replyto", second))
            others = [list(first) for first in product(range(a), repeat=x)]
            won = [answered[0] for answered in asked_of(told, *[("value", first + second) for first in others])]
            self.assertEqual(max(won), replied[0])
            self.assertEqual(others[won.index(max(won))], replied[1:])

    def test_in_the_best_plan_both_reply_best(self):
        for sizes, told in thrown_games(random.Random(6), 60, LARGEST):
            best = last(*told, ("best",))
            first, second = best[2:2 + sizes[0]], best[2 + sizes[0]:]
            reply, replyto = asked_of(told, ("reply", first), ("replyto", second))
            self.assertEqual(reply, [best[0]] + second)
            self.assertEqual(replyto, [best[0]] + first)


def only_counting(told, sizes, pairs):
    """The same game, in which just these pairs count."""
    return told + [("counts", *pair, 1 if pair in pairs else 0) for pair in pairs_of(sizes)]


class AllIsWonJustIfTheBestPlanWinsAll(unittest.TestCase):
    """c"""

    def test_perfect(self):
        found = set()
        for sizes, told in thrown_games(random.Random(7), 120, LARGEST):
            best, perfect, core = asked_of(told, ("best",), ("perfect",), ("core",))
            self.assertEqual(perfect, [1 if best[0] == best[1] else 0])
            self.assertEqual(core == [-33], perfect == [1])
            found.add(perfect[0])
        self.assertEqual(found, {0, 1})

    def test_core(self):
        dice = random.Random(8)
        games = list(thrown_games(dice, 60, LARGEST))
        games += [(sizes, tight_game(dice, sizes, (0, 1, 1, 9))) for sizes in [(3, 3, 2, 2), (3, 3, 3, 3)] * 30]
        found = set()
        for sizes, told in games:
            core = last(*told, ("core",))
            if core != [-33]:
                self.hold_for_core(sizes, told, core)
                found.add(core[0])
        self.assertLessEqual({1, 2, 3, 4}, found)

    def hold_for_core(self, sizes, told, core):
        pairs = list(zip(core[1::2], core[2::2]))
        self.assertEqual(len(pairs), core[0])
        self.assertEqual(pairs, sorted(set(pairs)))
        counting = [pair for pair in pairs_of(sizes) if last(*told, ("pair", *pair))[0] > 0]
        self.assertLessEqual(set(pairs), set(counting))
        self.assertEqual(last(*only_counting(told, sizes, pairs), ("perfect",)), [0])
        for left_out in pairs:
            fewer = [pair for pair in pairs if pair != left_out]
            self.assertEqual(last(*only_counting(told, sizes, fewer), ("perfect",)), [1])
        for fewer in combinations(counting, core[0] - 1):
            self.assertEqual(last(*only_counting(told, sizes, fewer), ("perfect",)), [1])


class WithMoreWords(unittest.TestCase):
    """d"""

    def test_no_less_is_won(self):
        helped = 0
        for sizes, told in thrown_games(random.Random(9), 80, LARGEST):
            best, game, one, two, three = asked_of(told, ("best",), ("game",), *[("told", c) for c in (1, 2, 3)])
            self.assertEqual(one[0], best[0])
            self.assertLessEqual(one[0], two[0])
            self.assertLessEqual(two[0], three[0])
            self.assertEqual([one[1], two[1], three[1]], [game[5]] * 3)
            self.assertLessEqual(three[0], game[5])
            self.assertLessEqual(game[5], game[4])
            helped += one[0] < two[0] < three[0]
            for words, won in ((1, one), (2, two), (3, three)):
                if words >= sizes[0]:
                    self.assertEqual(won[0], won[1])
        self.assertGreater(helped, 0)


class PlayedTwiceAtOnce(unittest.TestCase):
    """e"""

    def test_between_what_is_won_by_itself_and_all(self):
        dice = random.Random(10)
        games = list(thrown_games(dice, 80, FOR_TWICE))
        games += [(FOR_TWICE, thrown_game(dice, FOR_TWICE, (1,))) for time in range(40)]
        more = 0
        for sizes, told in games:
            best, twice = asked_of(told, ("best",), ("twice",))
            self.assertGreaterEqual(twice[0], best[0] * best[0])
            self.assertLessEqual(twice[0], best[0] * best[1])
            self.assertEqual(twice[1], best[1] * best[1])
            more += twice[0] > best[0] * best[0]
        self.assertGreater(more, 0)


class Exchanged(unittest.TestCase):
    """f"""

    def test_plans_win_as_much(self):
        for sizes, told in thrown_games(random.Random(11), 60, LARGEST):
            best, = asked_of(told, ("best",))
            asked = [("plans", t) for t in (0, 1, 2, best[0], best[0] - 1 if best[0] else 5)]
            asked += [("perfect",), ("twice",)]
            there = asked_of(told, *asked, ("best",), ("core",))
            back = asked_of(told + [("swap",)], *asked, ("best",), ("core",))
            self.assertEqual(back[:-2], there[:-2])
            self.assertEqual(back[-2][:2], there[-2][:2])
            self.assertEqual(back[-1][0], there[-1][0])

    def test_each_plan_does(self):
        dice = random.Random(12)
        for (x, y, a, b), told in thrown_games(dice, 60, LARGEST):
            first = [dice.randrange(a) for one in range(x)]
            second = [dice.randrange(b) for one in range(y)]
            there = asked_of(told, ("value", first + second), ("reply", first), ("replyto", second))
            back = asked_of(told + [("swap",)], ("value", second + first), ("replyto", first), ("reply", second))
            self.assertEqual(back, there)

    def test_every_call_behind_a_swap_is_as_if_so_told(self):
        dice = random.Random(13)
        for (x, y, a, b), told in thrown_games(dice, 60, LARGEST):
            best = last(*told, ("best",))
            asked = [("value", [dice.randrange(b) for one in range(y)] + [dice.randrange(a) for one in range(x)]),
                     ("value", [b - 1] * x + [a] * y), ("best",), ("reply", [b - 1] * y), ("reply", [0] * x),
                     ("replyto", [a - 1] * x), ("replyto", [0] * y), ("plans", best[0]), ("nth", best[0], 0),
                     ("nth", best[0], 3), ("nth", 0, 5), ("perfect",), ("core",), ("told", 1), ("told", 2),
                     ("told", 3), ("twice",), ("game",), ("swap",), ("game",), ("best",), ("swap",)]
            asked += [("pair", i, j) for i in range(4) for j in range(4)]
            asked += [("wins", y - 1, x - 1, b - 1, a - 1, 1), ("wins", x - 1, y - 1, a - 1, b - 1, 0),
                      ("odd", y - 1, 0, 1), ("odd", 0, y - 1, 0), ("counts", y - 1, x - 1, 7), ("counts", 2, 0, 98)]
            asked += [("pair", i, j) for i in range(4) for j in range(4)] + [("best",), ("core",), ("game",)]
            self.assertEqual(asked_of(told + [("swap",)], *asked), asked_of(told_exchanged(told), *asked))

    def test_what_is_refused_changes_nothing(self):
        dice = random.Random(14)
        for (x, y, a, b), told in thrown_games(dice, 40, LARGEST):
            total = last(*told, ("game",))[4]
            refused = [("begin", 0, y, a, b), ("begin", x, y, a, 5), ("wins", x, 0, 0, 0, 1), ("wins", 0, y, 0, 0, 1),
                       ("wins", 0, 0, a, 0, 1), ("wins", 0, 0, 0, b, 1), ("wins", 0, 0, 0, 0, 2), ("odd", x, 0, 0),
                       ("odd", 0, y, 0), ("odd", 0, 0, 2), ("counts", x, 0, 9), ("counts", 0, y, 9),
                       ("counts", 0, 0, 100), ("value", [0] * (x + y + 1)), ("reply", [a] * x), ("replyto", [b] * y),
                       ("nth", total + 1, 0), ("nth", 0, 4096), ("told", 0), ("told", 4), ("pair", x, 0),
                       ("pair", 0, y)]
            refused += [("core",)] if last(*told, ("perfect",)) == [1] else []
            refused += [("twice",)] if max(x, y, a, b) > 2 else []
            dice.shuffle(refused)
            asked = [("pair", i, j) for i in range(x) for j in range(y)]
            asked += [("game",), ("best",), ("perfect",), ("told", 2), ("nth", 0, 0)]
            answered = asked_of(told, *refused, *asked)
            for one in answered[:len(refused)]:
                self.assertEqual(len(one), 1)
                self.assertLess(one[0], 0)
            self.assertEqual(answered[len(refused):], asked_of(told, *asked))


if __name__ == "__main__":
    unittest.main()
