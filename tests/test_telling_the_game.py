"""Promise 1: begin, wins, odd, counts."""

import unittest
from itertools import product

from tests.helper import FAR, last, run


def cleared(x, y, a, b):
    """Asks of each pair of answers whether it won, by making it not win."""
    return [("wins", x, y, i, j, 0) for i, j in product(range(a), range(b))]


class Begin(unittest.TestCase):
    def test_every_size_that_is_told(self):
        for x, y, a, b in product(range(1, 4), range(1, 4), range(1, 5), range(1, 5)):
            answered = run([("begin", x, y, a, b), ("best",), ("plans", 0)])
            plans = a ** x * b ** y
            self.assertEqual(answered, [[0], [0, x * y] + [0] * (x + y), [plans, plans]])

    def test_sizes_outside(self):
        for place, wrong in [(0, 0), (0, 4), (0, FAR), (1, 0), (1, 4), (1, FAR),
                             (2, 0), (2, 5), (2, FAR), (3, 0), (3, 5), (3, FAR)]:
            sizes = [1, 1, 1, 1]
            sizes[place] = wrong
            self.assertEqual(run([("begin", *sizes), ("best",)]), [[-22], [-11]])

    def test_no_answers_win_and_each_pair_counts_one(self):
        pairs = list(product(range(3), range(3)))
        calls = [("begin", 3, 3, 4, 4)] + [call for x, y in pairs for call in cleared(x, y, 4, 4)]
        self.assertEqual(run(calls), [[0]] * len(calls))
        calls = [("begin", 3, 3, 4, 4)] + [("counts", x, y, 5) for x, y in pairs]
        self.assertEqual(run(calls), [[0]] + [[1]] * 9)

    def test_begins_anew(self):
        told = [("begin", 2, 2, 2, 2), ("odd", 0, 0, 0), ("wins", 1, 1, 1, 0, 1), ("counts", 0, 1, 50)]
        anew = [("begin", 2, 2, 2, 2), ("best",), ("plans", 0), ("wins", 1, 1, 1, 0, 1), ("counts", 0, 1, 9)]
        self.assertEqual(run(told + anew)[4:], [[0], [0, 4, 0, 0, 0, 0], [16, 16], [0], [1]])

    def test_begins_anew_with_other_sizes(self):
        calls = [("begin", 3, 3, 4, 4), ("begin", 1, 2, 3, 1), ("best",), ("counts", 1, 0, 5), ("counts", 0, 1, 5),
                 ("wins", 0, 0, 2, 0, 1), ("wins", 0, 0, 3, 0, 1), ("wins", 0, 0, 2, 1, 1), ("value", [2, 0, 0])]
        self.assertEqual(run(calls), [[0], [0], [0, 2, 0, 0, 0], [-2], [1], [0], [-2], [-2], [1, 6]])

    def test_a_refused_begin_leaves_the_game(self):
        calls = [("begin", 1, 2, 2, 2), ("wins", 0, 1, 1, 1, 1), ("counts", 0, 1, 7), ("begin", 4, 1, 1, 1),
                 ("begin", 1, 1, 1, 0), ("value", [1, 0, 1]), ("best",), ("plans", 7)]
        self.assertEqual(run(calls)[3:], [[-22], [-22], [7, 8], [7, 8, 1, 0, 1], [2, 8]])


class Wins(unittest.TestCase):
    def test_answers_what_was(self):
        begun = ("begin", 1, 1, 1, 1)
        calls = [begun] + [("wins", 0, 0, 0, 0, v) for v in (0, 1, 1, 0, 0, 1, 0)]
        self.assertEqual(run(calls), [[0], [0], [0], [1], [1], [0], [0], [1]])

    def test_just_these_answers_win_just_there(self):
        spots = list(product(range(2), range(3), range(4), range(2)))
        for spot in spots:
            calls = [("begin", 2, 3, 4, 2), ("wins", *spot, 1)] + [("wins", *other, 0) for other in spots]
            self.assertEqual(run(calls)[2:], [[1] if other == spot else [0] for other in spots])

    def test_the_first_and_the_second_are_not_mixed(self):
        begun = [("begin", 1, 2, 2, 3), ("wins", 0, 1, 1, 2, 1)]
        self.assertEqual(last(*begun, ("value", [1, 0, 2])), [1, 2])
        self.assertEqual(last(*begun, ("value", [1, 2, 0])), [0, 2])

    def test_no_such(self):
        begun = ("begin", 2, 3, 4, 1)
        for wrong in [(2, 0, 0, 0), (0, 3, 0, 0), (0, 0, 4, 0), (0, 0, 0, 1),
                      (FAR, 0, 0, 0), (0, FAR, 0, 0), (0, 0, FAR, 0), (0, 0, 0, FAR), (FAR, FAR, FAR, FAR)]:
            for v in (0, 1, 2, FAR):
                self.assertEqual(last(begun, ("wins", *wrong, v)), [-2])

    def test_v_is_not_as_told_and_changes_nothing(self):
        for v in (2, 3, FAR):
            calls = [("begin", 1, 1, 2, 1), ("wins", 0, 0, 0, 0, v), ("wins", 0, 0, 0, 0, 1),
                     ("wins", 0, 0, 0, 0, v), ("wins", 0, 0, 0, 0, 1)]
            self.assertEqual(run(calls), [[0], [-22], [0], [-22], [1]])


class Odd(unittest.TestCase):
    def test_even_or_odd_for_every_number_of_answers(self):
        for a, b, s in product(range(1, 5), range(1, 5), range(2)):
            calls = [("begin", 1, 1, a, b), ("odd", 0, 0, s)] + cleared(0, 0, a, b)
            expected = [[1 if (i + j) % 2 == s else 0] for i, j in product(range(a), range(b))]
            self.assertEqual(run(calls), [[0], [0]] + expected)

    def test_what_won_there_before_is_gone(self):
        told = [("begin", 1, 1, 2, 2), ("wins", 0, 0, 0, 1, 1), ("odd", 0, 0, 1), ("odd", 0, 0, 0)]
        self.assertEqual(run(told + cleared(0, 0, 2, 2))[4:], [[1], [0], [0], [1]])

    def test_only_there(self):
        told = [("begin", 2, 2, 2, 2), ("wins", 0, 0, 0, 0, 1), ("odd", 0, 1, 1)]
        self.assertEqual(run(told + cleared(0, 0, 2, 2))[3:], [[1], [0], [0], [0]])
        self.assertEqual(run(told + cleared(0, 1, 2, 2))[3:], [[0], [1], [1], [0]])
        self.assertEqual(run(told + cleared(1, 0, 2, 2))[3:], [[0]] * 4)

    def test_how_much_it_counts_stays(self):
        self.assertEqual(last(("begin", 1, 1, 1, 1), ("counts", 0, 0, 8), ("odd", 0, 0, 0), ("counts", 0, 0, 1)), [8])

    def test_refusals(self):
        begun = ("begin", 2, 3, 2, 2)
        for x, y in [(2, 0), (0, 3), (FAR, 0), (0, FAR)]:
            for s in (0, 1, 2, FAR):
                self.assertEqual(last(begun, ("odd", x, y, s)), [-2])
        for s in (2, 3, FAR):
            calls = [begun, ("wins", 1, 2, 0, 1, 1), ("odd", 1, 2, s)] + cleared(1, 2, 2, 2)
            self.assertEqual(run(calls)[2:], [[-22], [0], [1], [0], [0]])


class Counts(unittest.TestCase):
    def test_answers_what_was(self):
        calls = [("begin", 1, 1, 1, 1)] + [("counts", 0, 0, much) for much in (0, 99, 98, 1)]
        self.assertEqual(run(calls), [[0], [1], [0], [99], [98]])

    def test_just_there(self):
        pairs = list(product(range(2), range(3)))
        told = [("begin", 2, 3, 1, 1)] + [("counts", x, y, 10 + 3 * x + y) for x, y in pairs]
        asked = [("counts", x, y, 0) for x, y in pairs]
        self.assertEqual(run(told + asked)[7:], [[10], [11], [12], [13], [14], [15]])
        self.assertEqual(last(*told, ("value", [0] * 5)), [0, 75])

    def test_which_answers_win_stays(self):
        told = [("begin", 1, 1, 2, 2), ("odd", 0, 0, 1), ("counts", 0, 0, 0)]
        self.assertEqual(run(told + cleared(0, 0, 2, 2))[3:], [[0], [1], [1], [0]])

    def test_refusals(self):
        begun = ("begin", 3, 2, 2, 2)
        for x, y in [(3, 0), (0, 2), (FAR, 0), (0, FAR)]:
            for much in (0, 99, 100, FAR):
                self.assertEqual(last(begun, ("counts", x, y, much)), [-2])
        for much in (100, 101, FAR):
            self.assertEqual(run([begun, ("counts", 2, 1, much), ("counts", 2, 1, 5)]), [[0], [-22], [1]])


if __name__ == "__main__":
    unittest.main()
