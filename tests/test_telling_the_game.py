"""Promise 1: begin, wins, odd, counts, swap, pair, game."""

import unittest
from itertools import product

from tests.helper import FAR, GUESS, ODD_ONE, TORN, all_win, last, nothing_counts, run, told_exchanged


# Unlike in everything: how many questions and answers both have, what wins, and how much each pair counts.
UNLIKE = [
    ("begin", 2, 3, 4, 2), ("wins", 0, 1, 3, 0, 1), ("wins", 0, 1, 2, 1, 1), ("wins", 1, 2, 0, 1, 1),
    ("odd", 1, 0, 1), ("wins", 0, 2, 1, 1, 1), ("counts", 0, 1, 5), ("counts", 1, 2, 0), ("counts", 1, 0, 7),
    ("counts", 0, 2, 99),
]


def cleared(x, y, a, b):
    """Asks of each pair of answers whether it won, by making it not win."""
    return [("wins", x, y, i, j, 0) for i, j in product(range(a), range(b))]


class Begin(unittest.TestCase):
    def test_every_size_that_is_told(self):
        for x, y, a, b in product(range(1, 4), range(1, 4), range(1, 5), range(1, 5)):
            answered = run([("begin", x, y, a, b), ("best",), ("plans", 0)])
            plans = a ** x * b ** y
            self.assertEqual(answered, [[0], [0, x * y] + [0] * (x + y), [plans, plans]])

    def test_sizes_outside(self):
        for place, wrong in [(0, 0), (0, 4), (0, FAR), (1, 0), (1, 4), (1, FAR),
                             (2, 0), (2, 5), (2, FAR), (3, 0), (3, 5), (3, FAR)]:
            sizes = [1, 1, 1, 1]
            sizes[place] = wrong
            self.assertEqual(run([("begin", *sizes), ("best",)]), [[-22], [-11]])

    def test_no_answers_win_and_each_pair_counts_one(self):
        pairs = list(product(range(3), range(3)))
        calls = [("begin", 3, 3, 4, 4)] + [call for x, y in pairs for call in cleared(x, y, 4, 4)]
        self.assertEqual(run(calls), [[0]] * len(calls))
        calls = [("begin", 3, 3, 4, 4)] + [("counts", x, y, 5) for x, y in pairs]
        self.assertEqual(run(calls), [[0]] + [[1]] * 9)

    def test_begins_anew(self):
        told = [("begin", 2, 2, 2, 2), ("odd", 0, 0, 0), ("wins", 1, 1, 1, 0, 1), ("counts", 0, 1, 50)]
        anew = [("begin", 2, 2, 2, 2), ("best",), ("plans", 0), ("wins", 1, 1, 1, 0, 1), ("counts", 0, 1, 9)]
        self.assertEqual(run(told + anew)[4:], [[0], [0, 4, 0, 0, 0, 0], [16, 16], [0], [1]])

    def test_begins_anew_with_other_sizes(self):
        calls = [("begin", 3, 3, 4, 4), ("begin", 1, 2, 3, 1), ("best",), ("counts", 1, 0, 5), ("counts", 0, 1, 5),
                 ("wins", 0, 0, 2, 0, 1), ("wins", 0, 0, 3, 0, 1), ("wins", 0, 0, 2, 1, 1), ("value", [2, 0, 0])]
        self.assertEqual(run(calls), [[0], [0], [0, 2, 0, 0, 0], [-2], [1], [0], [-2], [-2], [1, 6]])

    def test_a_refused_begin_leaves_the_game(self):
        calls = [("begin", 1, 2, 2, 2), ("wins", 0, 1, 1, 1, 1), ("counts", 0, 1, 7), ("begin", 4, 1, 1, 1),
                 ("begin", 1, 1, 1, 0), ("value", [1, 0, 1]), ("best",), ("plans", 7)]
        self.assertEqual(run(calls)[3:], [[-22], [-22], [7, 8], [7, 8, 1, 0, 1], [2, 8]])


class Wins(unittest.TestCase):
    def test_answers_what_was(self):
        begun = ("begin", 1, 1, 1, 1)
        calls = [begun] + [("wins", 0, 0, 0, 0, v) for v in (0, 1, 1, 0, 0, 1, 0)]
        self.assertEqual(run(calls), [[0], [0], [0], [1], [1], [0], [0], [1]])

    def test_just_these_answers_win_just_there(self):
        spots = list(product(range(2), range(3), range(4), range(2)))
        for spot in spots:
            calls = [("begin", 2, 3, 4, 2), ("wins", *spot, 1)] + [("wins", *other, 0) for other in spots]
            self.assertEqual(run(calls)[2:], [[1] if other == spot else [0] for other in spots])

    def test_the_first_and_the_second_are_not_mixed(self):
        begun = [("begin", 1, 2, 2, 3), ("wins", 0, 1, 1, 2, 1)]
        self.assertEqual(last(*begun, ("value", [1, 0, 2])), [1, 2])
        self.assertEqual(last(*begun, ("value", [1, 2, 0])), [0, 2])

    def test_no_such(self):
        begun = ("begin", 2, 3, 4, 1)
        for wrong in [(2, 0, 0, 0), (0, 3, 0, 0), (0, 0, 4, 0), (0, 0, 0, 1),
                      (FAR, 0, 0, 0), (0, FAR, 0, 0), (0, 0, FAR, 0), (0, 0, 0, FAR), (FAR, FAR, FAR, FAR)]:
            for v in (0, 1, 2, FAR):
                self.assertEqual(last(begun, ("wins", *wrong, v)), [-2])

    def test_v_is_not_as_told_and_changes_nothing(self):
        for v in (2, 3, FAR):
            calls = [("begin", 1, 1, 2, 1), ("wins", 0, 0, 0, 0, v), ("wins", 0, 0, 0, 0, 1),
                     ("wins", 0, 0, 0, 0, v), ("wins", 0, 0, 0, 0, 1)]
            self.assertEqual(run(calls), [[0], [-22], [0], [-22], [1]])


class Odd(unittest.TestCase):
    def test_even_or_odd_for_every_number_of_answers(self):
        for a, b, s in product(range(1, 5), range(1, 5), range(2)):
            calls = [("begin", 1, 1, a, b), ("odd", 0, 0, s)] + cleared(0, 0, a, b)
            expected = [[1 if (i + j) % 2 == s else 0] for i, j in product(range(a), range(b))]
            self.assertEqual(run(calls), [[0], [0]] + expected)

    def test_what_won_there_before_is_gone(self):
        told = [("begin", 1, 1, 2, 2), ("wins", 0, 0, 0, 1, 1), ("odd", 0, 0, 1), ("odd", 0, 0, 0)]
        self.assertEqual(run(told + cleared(0, 0, 2, 2))[4:], [[1], [0], [0], [1]])

    def test_only_there(self):
        told = [("begin", 2, 2, 2, 2), ("wins", 0, 0, 0, 0, 1), ("odd", 0, 1, 1)]
        self.assertEqual(run(told + cleared(0, 0, 2, 2))[3:], [[1], [0], [0], [0]])
        self.assertEqual(run(told + cleared(0, 1, 2, 2))[3:], [[0], [1], [1], [0]])
        self.assertEqual(run(told + cleared(1, 0, 2, 2))[3:], [[0]] * 4)

    def test_how_much_it_counts_stays(self):
        self.assertEqual(last(("begin", 1, 1, 1, 1), ("counts", 0, 0, 8), ("odd", 0, 0, 0), ("counts", 0, 0, 1)), [8])

    def test_refusals(self):
        begun = ("begin", 2, 3, 2, 2)
        for x, y in [(2, 0), (0, 3), (FAR, 0), (0, FAR)]:
            for s in (0, 1, 2, FAR):
                self.assertEqual(last(begun, ("odd", x, y, s)), [-2])
        for s in (2, 3, FAR):
            calls = [begun, ("wins", 1, 2, 0, 1, 1), ("odd", 1, 2, s)] + cleared(1, 2, 2, 2)
            self.assertEqual(run(calls)[2:], [[-22], [0], [1], [0], [0]])


class Counts(unittest.TestCase):
    def test_answers_what_was(self):
        calls = [("begin", 1, 1, 1, 1)] + [("counts", 0, 0, much) for much in (0, 99, 98, 1)]
        self.assertEqual(run(calls), [[0], [1], [0], [99], [98]])

    def test_just_there(self):
        pairs = list(product(range(2), range(3)))
        told = [("begin", 2, 3, 1, 1)] + [("counts", x, y, 10 + 3 * x + y) for x, y in pairs]
        asked = [("counts", x, y, 0) for x, y in pairs]
        self.assertEqual(run(told + asked)[7:], [[10], [11], [12], [13], [14], [15]])
        self.assertEqual(last(*told, ("value", [0] * 5)), [0, 75])

    def test_which_answers_win_stays(self):
        told = [("begin", 1, 1, 2, 2), ("odd", 0, 0, 1), ("counts", 0, 0, 0)]
        self.assertEqual(run(told + cleared(0, 0, 2, 2))[3:], [[0], [1], [1], [0]])

    def test_refusals(self):
        begun = ("begin", 3, 2, 2, 2)
        for x, y in [(3, 0), (0, 2), (FAR, 0), (0, FAR)]:
            for much in (0, 99, 100, FAR):
                self.assertEqual(last(begun, ("counts", x, y, much)), [-2])
        for much in (100, 101, FAR):
            self.assertEqual(run([begun, ("counts", 2, 1, much), ("counts", 2, 1, 5)]), [[0], [-22], [1]])


class Swap(unittest.TestCase):
    def test_everything_is_exchanged(self):
        asked = [("game",)] + [("pair", y, x) for y in range(3) for x in range(2)]
        self.assertEqual(run(UNLIKE + [("swap",)] + asked)[len(UNLIKE):], [
            [0], [3, 2, 2, 4, 113, 111],
            [1, 0, 0, 0, 0, 0, 0, 0, 0], [7, 0, 1, 0, 1, 1, 0, 1, 0],
            [5, 0, 0, 0, 1, 0, 0, 1, 0], [1, 0, 0, 0, 0, 0, 0, 0, 0],
            [99, 0, 0, 0, 0, 0, 1, 0, 0], [0, 0, 0, 0, 0, 1, 0, 0, 0],
        ])

    def test_what_there_is_is_exchanged(self):
        swapped = UNLIKE + [("swap",)]
        for call in [("pair", 0, 2), ("pair", 3, 0), ("wins", 0, 2, 0, 0, 1), ("wins", 3, 0, 0, 0, 1),
                     ("wins", 0, 0, 2, 0, 1), ("wins", 0, 0, 0, 4, 1), ("odd", 0, 2, 0), ("odd", 3, 1, 0),
                     ("counts", 0, 2, 1), ("counts", 3, 1, 1)]:
            self.assertEqual(last(*swapped, call), [-2])
        for call, expected in [(("pair", 2, 1), 0), (("wins", 2, 1, 1, 3, 1), 0), (("wins", 2, 1, 1, 0, 1), 1),
                               (("odd", 2, 1, 1), 0), (("counts", 2, 1, 8), 0), (("counts", 2, 0, 8), 99)]:
            self.assertEqual(last(*swapped, call)[0], expected)

    def test_told_further_behind_a_swap(self):
        further = [("wins", 2, 1, 1, 3, 1), ("wins", 1, 0, 0, 3, 0), ("odd", 0, 0, 1), ("counts", 2, 1, 6),
                   ("counts", 1, 0, 0)]
        asked = [("pair", y, x) for y in range(3) for x in range(2)] + [("game",), ("best",)]
        answered = run(UNLIKE + [("swap",)] + further + asked)[-len(asked):]
        self.assertEqual(answered[0], [1, 0, 1, 0, 1, 1, 0, 1, 0])
        self.assertEqual(answered[2], [0, 0, 0, 0, 0, 0, 0, 1, 0])
        self.assertEqual(answered[5], [6, 0, 0, 0, 0, 1, 0, 0, 1])
        self.assertEqual(answered, run(UNLIKE + told_exchanged(further) + [("swap",)] + asked)[-len(asked):])
        self.assertEqual(answered, run(told_exchanged(UNLIKE) + further + asked)[-len(asked):])

    def test_made_twice(self):
        asked = [("game",), ("best",), ("plans", 7), ("wins", 1, 2, 0, 1, 0)]
        asked += [("pair", x, y) for x in range(2) for y in range(3)]
        twice = run(UNLIKE + [("swap",), ("swap",)] + asked)[len(UNLIKE):]
        self.assertEqual(twice[:2], [[0], [0]])
        self.assertEqual(twice[2:], run(UNLIKE + asked)[len(UNLIKE):])

    def test_begins_again_behind_it(self):
        calls = UNLIKE + [("swap",), ("begin", 1, 2, 3, 4), ("game",), ("pair", 0, 1), ("pair", 1, 0)]
        self.assertEqual(run(calls)[len(UNLIKE):], [[0], [0], [1, 2, 3, 4, 2, 0], [1] + [0] * 12, [-2]])

    def test_a_begin_refused_behind_it(self):
        calls = [("begin", 1, 2, 3, 4), ("swap",), ("begin", 0, 1, 1, 1), ("game",)]
        self.assertEqual(run(calls), [[0], [0], [-22], [2, 1, 4, 3, 2, 0]])

    def test_every_size_that_is_told(self):
        for x, y, a, b in product(range(1, 4), range(1, 4), range(1, 5), range(1, 5)):
            calls = [("begin", x, y, a, b), ("wins", x - 1, y - 1, a - 1, b - 1, 1), ("swap",), ("game",),
                     ("pair", y - 1, x - 1), ("value", [b - 1] * y + [a - 1] * x)]
            self.assertEqual(run(calls)[2:], [[0], [y, x, b, a, x * y, 1], [1] + [0] * (a * b - 1) + [1], [1, x * y]])

    def test_nothing_begun(self):
        self.assertEqual(run([("swap",), ("begin", 0, 0, 0, 0), ("swap",)]), [[-11], [-22], [-11]])


class Pair(unittest.TestCase):
    def test_the_answers_of_the_second_run_faster(self):
        told = [("begin", 1, 1, 2, 3), ("wins", 0, 0, 0, 2, 1), ("wins", 0, 0, 1, 0, 1)]
        self.assertEqual(last(*told, ("pair", 0, 0)), [1, 0, 0, 1, 1, 0, 0])
        for spot in product(range(3), range(4)):
            expected = [1 if other == spot else 0 for other in product(range(3), range(4))]
            self.assertEqual(last(("begin", 1, 1, 3, 4), ("wins", 0, 0, *spot, 1), ("pair", 0, 0)), [1] + expected)

    def test_each_pair(self):
        asked = [("pair", x, y) for x in range(2) for y in range(3)]
        self.assertEqual(run(UNLIKE + asked)[len(UNLIKE):], [
            [1, 0, 0, 0, 0, 0, 0, 0, 0], [5, 0, 0, 0, 0, 0, 1, 1, 0], [99, 0, 0, 0, 1, 0, 0, 0, 0],
            [7, 0, 1, 1, 0, 0, 1, 1, 0], [1, 0, 0, 0, 0, 0, 0, 0, 0], [0, 0, 1, 0, 0, 0, 0, 0, 0],
        ])

    def test_one_question_and_one_answer(self):
        begun = ("begin", 1, 1, 1, 1)
        self.assertEqual(last(begun, ("pair", 0, 0)), [1, 0])
        self.assertEqual(last(begun, ("wins", 0, 0, 0, 0, 1), ("counts", 0, 0, 0), ("pair", 0, 0)), [0, 1])
        self.assertEqual(last(begun, ("odd", 0, 0, 0), ("counts", 0, 0, 99), ("pair", 0, 0)), [99, 1])

    def test_all_answers_win(self):
        self.assertEqual(last(*all_win(3, 3, 4, 4), ("pair", 2, 2)), [1] + [1] * 16)

    def test_changes_nothing(self):
        self.assertEqual(run(UNLIKE + [("pair", 0, 1)] * 2)[-2:], [[5, 0, 0, 0, 0, 0, 1, 1, 0]] * 2)

    def test_no_such(self):
        for x, y in [(2, 0), (0, 3), (3, 0), (2, 3), (100, 0), (0, 100), (FAR, 0), (0, FAR), (FAR, FAR)]:
            self.assertEqual(last(("begin", 2, 3, 4, 4), ("pair", x, y)), [-2])
        self.assertEqual(last(("begin", 2, 3, 4, 4), ("pair", 1, 2)), [1] + [0] * 16)


class TheGame(unittest.TestCase):
    def test_odd_one_among_three_evens(self):
        self.assertEqual(last(*ODD_ONE, ("game",)), [2, 2, 2, 2, 4, 4])

    def test_nothing_told(self):
        for x, y, a, b in product(range(1, 4), range(1, 4), range(1, 5), range(1, 5)):
            self.assertEqual(last(("begin", x, y, a, b), ("game",)), [x, y, a, b, x * y, 0])

    def test_heard_is_by_one_answer_of_the_first(self):
        self.assertEqual(last(*TORN, ("game",)), [1, 2, 2, 1, 2, 1])
        self.assertEqual(last(*TORN, ("counts", 0, 0, 4), ("game",)), [1, 2, 2, 1, 5, 4])
        self.assertEqual(last(*TORN, ("counts", 0, 1, 4), ("game",)), [1, 2, 2, 1, 5, 4])

    def test_heard_is_by_an_answer_to_each_question_of_the_second(self):
        self.assertEqual(last(*told_exchanged(TORN), ("game",)), [2, 1, 1, 2, 2, 2])
        self.assertEqual(last(*GUESS, ("counts", 1, 0, 50), ("game",)), [3, 1, 1, 3, 52, 52])

    def test_pairs_that_count_nothing(self):
        self.assertEqual(last(*ODD_ONE, ("counts", 1, 1, 0), ("game",)), [2, 2, 2, 2, 3, 3])
        self.assertEqual(last(*ODD_ONE, *nothing_counts(2, 2), ("game",)), [2, 2, 2, 2, 0, 0])

    def test_all_answers_win_and_all_count_most(self):
        told = all_win(3, 3, 4, 4) + [("counts", x, y, 99) for x in range(3) for y in range(3)]
        self.assertEqual(last(*told, ("game",)), [3, 3, 4, 4, 891, 891])

    def test_unlike_numbers(self):
        self.assertEqual(last(*UNLIKE, ("game",)), [2, 3, 4, 2, 113, 106])


if __name__ == "__main__":
    unittest.main()
