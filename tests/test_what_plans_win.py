"""Promise 2: value, best, reply, replyto, plans, nth."""

import random
import unittest
from itertools import product

from tests.helper import FAR, ODD_ONE, TORN, all_win, last, model_run, nothing_counts, run


class Value(unittest.TestCase):
    def test_odd_one_among_three_evens(self):
        self.assertEqual(last(*ODD_ONE, ("value", [0, 0, 0, 0])), [3, 4])
        self.assertEqual(last(*ODD_ONE, ("value", [0, 1, 0, 0])), [3, 4])
        self.assertEqual(last(*ODD_ONE, ("value", [1, 0, 0, 0])), [1, 4])

    def test_by_how_much_pairs_count(self):
        weighted = ODD_ONE + [("counts", 0, 0, 1), ("counts", 0, 1, 10), ("counts", 1, 0, 30), ("counts", 1, 1, 50)]
        self.assertEqual(last(*weighted, ("value", [0, 0, 0, 0])), [41, 91])
        self.assertEqual(last(*weighted, ("value", [0, 1, 0, 0])), [61, 91])
        self.assertEqual(last(*weighted, ("value", [0, 0, 0, 1])), [81, 91])

    def test_pair_that_counts_nothing(self):
        self.assertEqual(last(*ODD_ONE, ("counts", 1, 1, 0), ("value", [0, 0, 0, 0])), [3, 3])
        self.assertEqual(last(*ODD_ONE, ("counts", 0, 0, 0), ("value", [0, 0, 0, 0])), [2, 3])

    def test_plan_that_wins_nothing(self):
        self.assertEqual(last(*TORN, ("wins", 0, 1, 0, 0, 0), ("value", [0, 0, 0])), [0, 2])

    def test_rows_of_every_length(self):
        begun = ("begin", 1, 2, 3, 4)
        for length in range(11):
            expected = [0, 2] if length == 3 else [-22]
            self.assertEqual(last(begun, ("value", [0] * length)), expected)
        for length in range(11):
            expected = [0, 9] if length == 6 else [-22]
            self.assertEqual(last(("begin", 3, 3, 1, 1), ("value", [0] * length)), expected)

    def test_answers_that_there_are_not(self):
        begun = ("begin", 1, 2, 3, 4)
        self.assertEqual(last(begun, ("value", [2, 3, 3])), [0, 2])
        for row in ([3, 0, 0], [0, 4, 0], [0, 0, 4], [FAR, 0, 0], [0, FAR, 0], [0, 0, FAR], [FAR] * 3, [FAR] * 10):
            self.assertEqual(last(begun, ("value", row)), [-22])


class Best(unittest.TestCase):
    def test_odd_one_among_three_evens(self):
        self.assertEqual(last(*ODD_ONE, ("best",)), [3, 4, 0, 0, 0, 0])

    def test_one_question_each(self):
        begun = ("begin", 1, 1, 4, 3)
        self.assertEqual(last(begun, ("wins", 0, 0, 3, 2, 1), ("best",)), [1, 1, 3, 2])
        self.assertEqual(last(begun, ("wins", 0, 0, 3, 0, 1), ("wins", 0, 0, 2, 2, 1), ("best",)), [1, 1, 2, 2])
        self.assertEqual(last(("begin", 1, 1, 1, 1), ("wins", 0, 0, 0, 0, 1), ("best",)), [1, 1, 0, 0])

    def test_no_answers_win(self):
        self.assertEqual(last(("begin", 3, 2, 4, 4), ("best",)), [0, 6, 0, 0, 0, 0, 0])

    def test_all_answers_win(self):
        self.assertEqual(last(*all_win(2, 3, 3, 2), ("counts", 1, 2, 99), ("best",)), [104, 104, 0, 0, 0, 0, 0])

    def test_two_pairs_that_cannot_both_be_won(self):
        self.assertEqual(last(*TORN, ("best",)), [1, 2, 0, 0, 0])
        self.assertEqual(last(*TORN, ("counts", 0, 0, 2), ("best",)), [2, 3, 1, 0, 0])
        self.assertEqual(last(*TORN, ("counts", 0, 1, 0), ("best",)), [1, 1, 1, 0, 0])

    def test_pair_that_counts_nothing(self):
        self.assertEqual(last(*ODD_ONE, ("counts", 0, 0, 0), ("best",)), [3, 3, 0, 1, 1, 0])
        nothing = [("counts", x, y, 0) for x in range(2) for y in range(2)]
        self.assertEqual(last(*ODD_ONE, *nothing, ("best",)), [0, 0, 0, 0, 0, 0])

    def test_the_first_row_decides_before_the_second(self):
        told = [("begin", 1, 1, 2, 2), ("odd", 0, 0, 1), ("best",)]
        self.assertEqual(last(*told), [1, 1, 0, 1])

    def test_changes_nothing(self):
        self.assertEqual(run(ODD_ONE + [("best",), ("best",)])[5:], [[3, 4, 0, 0, 0, 0]] * 2)


class Reply(unittest.TestCase):
    def test_odd_one_among_three_evens(self):
        replies = {(0, 0): [3, 0, 0], (0, 1): [3, 0, 0], (1, 0): [3, 0, 1], (1, 1): [3, 1, 0]}
        for row, expected in replies.items():
            self.assertEqual(last(*ODD_ONE, ("reply", list(row))), expected)
            self.assertEqual(last(*ODD_ONE, ("replyto", list(row))), expected)

    def test_least_answer_of_those_that_win_most(self):
        told = [("begin", 1, 2, 1, 4), ("wins", 0, 0, 0, 3, 1), ("wins", 0, 0, 0, 2, 1), ("counts", 0, 0, 9)]
        self.assertEqual(last(*told, ("reply", [0])), [9, 2, 0])
        told = [("begin", 2, 1, 4, 1), ("wins", 1, 0, 3, 0, 1), ("wins", 1, 0, 1, 0, 1), ("counts", 1, 0, 9)]
        self.assertEqual(last(*told, ("replyto", [0])), [9, 0, 1])

    def test_much_beats_many(self):
        told = [("begin", 3, 1, 1, 2), ("wins", 0, 0, 0, 0, 1), ("wins", 1, 0, 0, 0, 1), ("wins", 2, 0, 0, 1, 1)]
        self.assertEqual(last(*told, ("reply", [0, 0, 0])), [2, 0])
        self.assertEqual(last(*told, ("counts", 2, 0, 3), ("reply", [0, 0, 0])), [3, 1])
        told = [("begin", 1, 3, 2, 1), ("wins", 0, 0, 0, 0, 1), ("wins", 0, 1, 0, 0, 1), ("wins", 0, 2, 1, 0, 1)]
        self.assertEqual(last(*told, ("replyto", [0, 0, 0])), [2, 0])
        self.assertEqual(last(*told, ("counts", 0, 2, 3), ("replyto", [0, 0, 0])), [3, 1])

    def test_pair_that_counts_nothing(self):
        for name in ("reply", "replyto"):
            self.assertEqual(last(*ODD_ONE, ("counts", 0, 0, 0), (name, [0, 0])), [2, 0, 0])
            self.assertEqual(last(*ODD_ONE, ("counts", 0, 0, 0), (name, [1, 0])), [3, 0, 1])
            self.assertEqual(last(*ODD_ONE, ("counts", 1, 1, 0), (name, [1, 1])), [3, 1, 1])

    def test_nothing_to_win_and_all_to_win(self):
        begun = ("begin", 2, 3, 2, 2)
        self.assertEqual(last(begun, ("reply", [1, 1])), [0, 0, 0, 0])
        self.assertEqual(last(begun, ("replyto", [1, 1, 1])), [0, 0, 0])
        self.assertEqual(last(*all_win(2, 3, 2, 2), ("reply", [1, 1])), [6, 0, 0, 0])
        self.assertEqual(last(*all_win(2, 3, 2, 2), ("replyto", [1, 1, 1])), [6, 0, 0])

    def test_rows_of_every_length(self):
        begun = ("begin", 3, 2, 2, 4)
        for length in range(11):
            self.assertEqual(last(begun, ("reply", [1] * length)), [0, 0, 0] if length == 3 else [-22])
            self.assertEqual(last(begun, ("replyto", [3] * length)), [0, 0, 0, 0] if length == 2 else [-22])

    def test_answers_that_there_are_not(self):
        begun = ("begin", 3, 2, 2, 4)
        for row in ([2, 0, 0], [0, 2, 0], [0, 0, 2], [3, 3, 3], [FAR, 0, 0], [0, 0, FAR]):
            self.assertEqual(last(begun, ("reply", row)), [-22])
        for row in ([4, 0], [0, 4], [FAR, 0], [0, FAR], [FAR, FAR]):
            self.assertEqual(last(begun, ("replyto", row)), [-22])


class Plans(unittest.TestCase):
    def test_odd_one_among_three_evens(self):
        for t, just in [(0, 0), (1, 8), (2, 0), (3, 8), (4, 0), (5, 0), (100, 0), (FAR, 0)]:
            self.assertEqual(last(*ODD_ONE, ("plans", t)), [just, 16])

    def test_no_answers_win(self):
        begun = ("begin", 1, 2, 3, 4)
        self.assertEqual(run([begun, ("plans", 0), ("plans", 1)])[1:], [[48, 48], [0, 48]])

    def test_all_answers_win(self):
        asked = [("plans", 6), ("plans", 5), ("plans", 0)]
        self.assertEqual(run(all_win(2, 3, 3, 2) + asked)[-3:], [[72, 72], [0, 72], [0, 72]])

    def test_one_question_each(self):
        told = [("begin", 1, 1, 3, 3), ("odd", 0, 0, 0), ("counts", 0, 0, 99)]
        self.assertEqual(run(told + [("plans", 99), ("plans", 0), ("plans", 1)])[3:], [[5, 9], [4, 9], [0, 9]])

    def test_pairs_that_count_nothing(self):
        told = [("begin", 1, 1, 2, 2), ("odd", 0, 0, 0), ("counts", 0, 0, 0)]
        self.assertEqual(last(*told, ("plans", 0)), [4, 4])

    def test_two_pairs_that_cannot_both_be_won(self):
        self.assertEqual(run(TORN + [("plans", t) for t in range(3)])[3:], [[0, 2], [2, 2], [0, 2]])
        weighted = TORN + [("counts", 0, 1, 5)]
        self.assertEqual(run(weighted + [("plans", t) for t in (1, 5, 6)])[4:], [[1, 2], [1, 2], [0, 2]])

    def test_how_many_there_are(self):
        for x, y, a, b in product(range(1, 4), range(1, 4), range(1, 5), range(1, 5)):
            self.assertEqual(last(("begin", x, y, a, b), ("plans", FAR)), [0, a ** x * b ** y])

    def test_they_add_up(self):
        dice = random.Random(2012)
        for time in range(10):
            told = [("begin", 3, 3, 4, 4)] + [("odd", x, y, dice.randrange(2)) for x in range(3) for y in range(3)]
            answered = run(told + [("plans", t) for t in range(10)])[-10:]
            self.assertEqual(sum(just for just, in_all in answered), 4096)
            self.assertEqual({in_all for just, in_all in answered}, {4096})


class Nth(unittest.TestCase):
    def test_odd_one_among_three_evens(self):
        winning_three = [[0, 0, 0, 0], [0, 0, 0, 1], [0, 1, 0, 0], [0, 1, 1, 0],
                         [1, 0, 0, 1], [1, 0, 1, 1], [1, 1, 1, 0], [1, 1, 1, 1]]
        asked = [("nth", 3, k) for k in range(8)]
        self.assertEqual(run(ODD_ONE + asked)[5:], [[4] + plan for plan in winning_three])
        winning_one = [list(plan) for plan in product(range(2), repeat=4) if list(plan) not in winning_three]
        asked = [("nth", 1, k) for k in range(8)]
        self.assertEqual(run(ODD_ONE + asked)[5:], [[4] + plan for plan in winning_one])

    def test_none(self):
        for t, k in [(3, 8), (3, 9), (3, FAR), (1, 8), (0, 0), (2, 0), (4, 0), (4, FAR), (5, 0), (FAR, 0), (FAR, FAR)]:
            self.assertEqual(last(*ODD_ONE, ("nth", t, k)), [-33])

    def test_one_question_each(self):
        told = [("begin", 1, 1, 2, 3), ("wins", 0, 0, 1, 2, 1), ("wins", 0, 0, 0, 1, 1), ("counts", 0, 0, 99)]
        asked = [("nth", 99, 0), ("nth", 99, 1), ("nth", 99, 2), ("nth", 1, 0)]
        self.assertEqual(run(told + asked)[4:], [[2, 0, 1], [2, 1, 2], [-33], [-33]])
        self.assertEqual(last(("begin", 1, 1, 1, 1), ("nth", 0, 0)), [2, 0, 0])
        self.assertEqual(last(("begin", 1, 1, 1, 1), ("nth", 0, 1)), [-33])

    def test_plans_that_win_nothing(self):
        begun = ("begin", 1, 2, 2, 3)
        for k, plan in enumerate(product(range(2), range(3), range(3))):
            self.assertEqual(last(begun, ("nth", 0, k)), [3, *plan])
        self.assertEqual(last(begun, ("nth", 0, 18)), [-33])
        self.assertEqual(last(begun, ("nth", 1, 0)), [-33])

    def test_all_answers_win(self):
        told = all_win(2, 1, 2, 2)
        self.assertEqual(run(told + [("nth", 2, 7), ("nth", 2, 8), ("nth", 0, 0)])[-3:], [[3, 1, 1, 1], [-33], [-33]])

    def test_pairs_that_count_nothing(self):
        told = ODD_ONE + nothing_counts(2, 2)
        self.assertEqual(run(told + [("nth", 0, 15), ("nth", 0, 16), ("nth", 3, 0)])[-3:],
                         [[4, 1, 1, 1, 1], [-33], [-33]])

    def test_two_pairs_that_cannot_both_be_won(self):
        asked = [("nth", 1, 0), ("nth", 1, 1), ("nth", 1, 2), ("nth", 2, 0)]
        self.assertEqual(run(TORN + asked)[3:], [[3, 0, 0, 0], [3, 1, 0, 0], [-33], [-33]])

    def test_the_last_of_most_plans(self):
        asked = [("nth", 0, 4095), ("nth", 0, 4096), ("nth", 0, 64), ("nth", 0, 63), ("nth", 0, 27)]
        self.assertEqual(run([("begin", 3, 3, 4, 4)] + asked)[1:],
                         [[6] + [3] * 6, [-33], [6, 0, 0, 1, 0, 0, 0], [6, 0, 0, 0, 3, 3, 3], [6, 0, 0, 0, 1, 2, 3]])

    def test_every_place_against_plans(self):
        dice = random.Random(7)
        for sizes in [(1, 1, 3, 2), (1, 2, 4, 2), (2, 1, 2, 4), (2, 2, 3, 2), (1, 3, 2, 3), (3, 1, 3, 4)]:
            spots = list(product(*[range(size) for size in sizes]))
            told = [("begin", *sizes)] + [("wins", *spot, 1) for spot in spots if dice.random() < 0.5]
            told += [("counts", x, y, dice.randrange(4)) for x in range(sizes[0]) for y in range(sizes[1])]
            total = last(*told, ("best",))[1]
            in_order = []
            for t in range(total + 2):
                just, in_all = last(*told, ("plans", t))
                found = run(told + [("nth", t, k) for k in range(just + 1)])[len(told):]
                self.assertEqual(found[-1], [-33])
                plans = [answered[1:] for answered in found[:-1]]
                self.assertEqual(plans, sorted(plans))
                self.assertEqual({answered[0] for answered in found[:-1]} - {sizes[0] + sizes[1]}, set())
                for plan in plans:
                    self.assertEqual(last(*told, ("value", plan)), [t, total])
                in_order.extend(plans)
            everyone = product(*[range(sizes[2])] * sizes[0], *[range(sizes[3])] * sizes[1])
            self.assertEqual(sorted(in_order), [list(plan) for plan in everyone])

    def test_against_model(self):
        told = ODD_ONE + [("counts", 0, 0, 0), ("counts", 1, 1, 2), ("wins", 0, 1, 1, 0, 1)]
        asked = [("nth", t, k) for t in range(6) for k in range(17)]
        self.assertEqual(run(told + asked), model_run(told + asked))


if __name__ == "__main__":
    unittest.main()
