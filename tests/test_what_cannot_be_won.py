"""Promise 3: perfect, core, told, twice."""

import random
import unittest
from itertools import combinations, product

from tests.helper import (FAR, GUESS, ODD_ONE, TORN, Model, all_win, last, model_run, nothing_counts, run,
                          told_exchanged)
from tests.thrown import FOR_TWICE, LARGEST, loose_game, thrown_game, thrown_games

# The first has to say the second's question, the second the first's: nobody knows the other's.
CROSSED = [("begin", 2, 2, 2, 2)] + [("wins", x, y, y, x, 1) for x in range(2) for y in range(2)]

# Three and three questions, an odd one in the last corner; there are several fours of pairs that can't all be won.
ODD_CORNER = [("begin", 3, 3, 2, 2)] + [("odd", x, y, 1 if (x, y) == (2, 2) else 0)
                                        for x in range(3) for y in range(3)]


def model_of(told):
    model = Model()
    for call in told:
        model.answer(call)
    return model


class Perfect(unittest.TestCase):
    def test_odd_one_among_three_evens(self):
        self.assertEqual(last(*ODD_ONE, ("perfect",)), [0])
        for x, y in product(range(2), range(2)):
            self.assertEqual(last(*ODD_ONE, ("counts", x, y, 0), ("perfect",)), [1])
            self.assertEqual(last(*ODD_ONE, ("counts", x, y, 99), ("perfect",)), [0])

    def test_two_odd_ones(self):
        self.assertEqual(last(*ODD_ONE, ("odd", 0, 0, 1), ("perfect",)), [1])

    def test_one_question_each(self):
        begun = ("begin", 1, 1, 4, 4)
        self.assertEqual(last(begun, ("perfect",)), [0])
        self.assertEqual(last(begun, ("wins", 0, 0, 3, 3, 1), ("perfect",)), [1])

    def test_no_answers_win_and_all_answers_win(self):
        self.assertEqual(last(("begin", 3, 2, 2, 3), ("perfect",)), [0])
        self.assertEqual(last(*all_win(3, 2, 2, 3), ("perfect",)), [1])

    def test_no_pair_counts(self):
        self.assertEqual(last(("begin", 3, 3, 1, 1), *nothing_counts(3, 3), ("perfect",)), [1])
        self.assertEqual(last(*ODD_ONE, *nothing_counts(2, 2), ("perfect",)), [1])

    def test_two_pairs_that_cannot_both_be_won(self):
        self.assertEqual(last(*TORN, ("perfect",)), [0])
        self.assertEqual(last(*TORN, ("counts", 0, 0, 0), ("perfect",)), [1])

    def test_the_last_plan_alone(self):
        told = [("begin", 2, 2, 3, 3)] + [("wins", x, y, 2, 2, 1) for x in range(2) for y in range(2)]
        self.assertEqual(last(*told, ("perfect",)), [1])
        self.assertEqual(last(*told, ("wins", 1, 1, 2, 2, 0), ("perfect",)), [0])


class Core(unittest.TestCase):
    def test_odd_one_among_three_evens(self):
        self.assertEqual(last(*ODD_ONE, ("core",)), [4, 0, 0, 0, 1, 1, 0, 1, 1])
        weighted = ODD_ONE + [("counts", 0, 0, 99), ("counts", 1, 0, 2)]
        self.assertEqual(last(*weighted, ("core",)), [4, 0, 0, 0, 1, 1, 0, 1, 1])

    def test_none_if_perfect(self):
        for x, y in product(range(2), range(2)):
            self.assertEqual(last(*ODD_ONE, ("counts", x, y, 0), ("core",)), [-33])
        self.assertEqual(last(*all_win(2, 3, 2, 1), ("core",)), [-33])
        self.assertEqual(last(("begin", 1, 1, 3, 3), ("wins", 0, 0, 2, 2, 1), ("core",)), [-33])

    def test_none_if_no_pair_counts(self):
        self.assertEqual(last(("begin", 3, 3, 4, 4), *nothing_counts(3, 3), ("core",)), [-33])
        self.assertEqual(last(*ODD_ONE, *nothing_counts(2, 2), ("core",)), [-33])

    def test_one_pair_that_nothing_wins(self):
        begun = ("begin", 2, 2, 2, 2)
        self.assertEqual(last(begun, ("core",)), [1, 0, 0])
        self.assertEqual(last(begun, ("counts", 0, 0, 0), ("core",)), [1, 0, 1])
        self.assertEqual(last(begun, ("counts", 0, 0, 0), ("counts", 0, 1, 0), ("core",)), [1, 1, 0])
        self.assertEqual(last(begun, ("odd", 0, 0, 0), ("odd", 0, 1, 1), ("odd", 1, 0, 0), ("core",)), [1, 1, 1])
        self.assertEqual(last(("begin", 1, 1, 1, 1), ("core",)), [1, 0, 0])

    def test_one_pair_is_fewer_than_four_earlier(self):
        told = ODD_CORNER + [("wins", 2, 2, 0, 1, 0), ("wins", 2, 2, 1, 0, 0)]
        self.assertEqual(last(*told, ("core",)), [1, 2, 2])

    def test_two_pairs_that_cannot_both_be_won(self):
        self.assertEqual(last(*TORN, ("core",)), [2, 0, 0, 0, 1])
        self.assertEqual(last(*told_exchanged(TORN), ("core",)), [2, 0, 0, 1, 0])
        self.assertEqual(last(*CROSSED, ("core",)), [2, 0, 0, 0, 1])
        self.assertEqual(last(*CROSSED, ("counts", 0, 0, 0), ("core",)), [2, 0, 1, 1, 1])
        self.assertEqual(last(*CROSSED, ("counts", 0, 1, 0), ("core",)), [2, 0, 0, 1, 0])

    def test_the_first_of_as_few(self):
        self.assertEqual(last(*ODD_CORNER, ("core",)), [4, 0, 0, 0, 2, 2, 0, 2, 2])
        self.assertEqual(last(*ODD_CORNER, ("counts", 0, 0, 0), ("core",)), [4, 0, 1, 0, 2, 2, 1, 2, 2])
        self.assertEqual(last(*ODD_CORNER, ("counts", 0, 2, 0), ("core",)), [4, 1, 0, 1, 2, 2, 0, 2, 2])
        told = ODD_CORNER + [("counts", 2, 0, 0), ("counts", 0, 1, 0)]
        self.assertEqual(last(*told, ("core",)), [4, 1, 1, 1, 2, 2, 1, 2, 2])

    def test_more_than_four_pairs(self):
        # Left are six pairs in a ring, an odd one among five evens.
        told = ODD_CORNER + [("counts", 0, 2, 0), ("counts", 1, 0, 0), ("counts", 2, 1, 0)]
        self.assertEqual(last(*told, ("core",)), [6, 0, 0, 0, 1, 1, 1, 1, 2, 2, 0, 2, 2])

    def test_pairs_that_count_nothing_are_left_out(self):
        told = ODD_CORNER + [("wins", 2, 2, 0, 1, 0), ("wins", 2, 2, 1, 0, 0), ("counts", 2, 2, 0)]
        self.assertEqual(last(*told, ("core",)), [-33])

    def test_against_a_search_of_all_sets(self):
        dice = random.Random(11)
        found = set()
        for time in range(150):
            sizes = (dice.choice([1, 2, 3, 3, 3]), dice.choice([1, 2, 3, 3, 3]), dice.randint(1, 3), dice.randint(1, 3))
            told = thrown_game(dice, sizes, (0, 1, 1, 1, 5))
            model = model_of(told)
            won_sets = model.sets_won()
            lost = [pairs for size in range(10) for pairs in combinations(model.counting(), size)
                    if not any(won >= set(pairs) for won in won_sets)]
            expected = [-33]
            if lost:
                pairs = min(lost, key=lambda pairs: (len(pairs), pairs))
                expected = [len(pairs), *[number for pair in pairs for number in pair]]
            self.assertEqual(last(*told, ("core",)), expected)
            found.add(expected[0])
        self.assertLessEqual({-33, 1, 2, 3, 4}, found)


class Told(unittest.TestCase):
    def test_odd_one_among_three_evens(self):
        self.assertEqual(run(ODD_ONE + [("told", c) for c in (1, 2, 3)])[5:], [[3, 4], [4, 4], [4, 4]])

    def test_words_that_tell_all(self):
        self.assertEqual(run(GUESS + [("told", c) for c in (1, 2, 3)])[4:], [[1, 3], [2, 3], [3, 3]])
        weighted = GUESS + [("counts", 0, 0, 2), ("counts", 1, 0, 5), ("counts", 2, 0, 3)]
        self.assertEqual(run(weighted + [("told", c) for c in (1, 2, 3)])[7:], [[5, 10], [8, 10], [10, 10]])

    def test_two_questions_may_share_a_word(self):
        # Both questions 0 and 2 are won by the same answer, so two words tell all that's needed.
        told = GUESS + [("wins", 2, 0, 0, 0, 1), ("wins", 2, 0, 0, 2, 0)]
        self.assertEqual(run(told + [("told", c) for c in (1, 2, 3)])[6:], [[2, 3], [3, 3], [3, 3]])

    def test_words_do_not_help_the_first(self):
        for c in (1, 2, 3):
            self.assertEqual(last(*TORN, ("told", c)), [1, 1])
            self.assertEqual(last(*TORN, ("counts", 0, 0, 9), ("told", c)), [9, 9])
            self.assertEqual(last(*CROSSED, ("told", c)), [2, 2])

    def test_the_first_answers_by_the_word_too(self):
        # At word and answer together all is won; with the same answers to both questions it isn't.
        told = [("begin", 2, 1, 2, 2), ("wins", 0, 0, 0, 0, 1), ("wins", 1, 0, 1, 1, 1), ("counts", 1, 0, 4)]
        self.assertEqual(run(told + [("told", c) for c in (1, 2, 3)])[4:], [[4, 5], [5, 5], [5, 5]])

    def test_one_question_each(self):
        for c in (1, 2, 3):
            self.assertEqual(last(("begin", 1, 1, 4, 4), ("told", c)), [0, 0])
            self.assertEqual(last(("begin", 1, 1, 4, 4), ("wins", 0, 0, 3, 3, 1), ("told", c)), [1, 1])

    def test_no_answers_win_and_all_answers_win(self):
        for c in (1, 2, 3):
            self.assertEqual(last(("begin", 3, 3, 4, 4), ("told", c)), [0, 0])
            self.assertEqual(last(*all_win(3, 3, 2, 2), ("counts", 0, 0, 99), ("told", c)), [107, 107])

    def test_pairs_that_count_nothing(self):
        for c in (1, 2, 3):
            self.assertEqual(last(*ODD_ONE, ("counts", 0, 1, 0), ("told", c)), [3, 3])
            self.assertEqual(last(*ODD_ONE, *nothing_counts(2, 2), ("told", c)), [0, 0])

    def test_not_as_told(self):
        for c in (0, 4, 5, 100, FAR - 1, FAR):
            self.assertEqual(last(*ODD_ONE, ("told", c)), [-22])
            self.assertEqual(run(GUESS + [("told", c), ("told", 2)])[4:], [[-22], [2, 3]])

    def test_against_all_that_both_may_agree_on(self):
        dice = random.Random(13)
        for (x, y, a, b), told in thrown_games(dice, 40, FOR_TWICE):
            model = model_of(told)
            for c in (1, 2, 3):
                most = 0
                for first in product(product(range(c), range(a)), repeat=x):
                    for second in product(range(b), repeat=y * c):
                        most = max(most, sum(
                            much for (i, j), much in model.much.items()
                            if (i, j, first[i][1], second[j * c + first[i][0]]) in model.winning))
                self.assertEqual(last(*told, ("told", c)), [most, model.heard()])

    def test_larger_games_against_model(self):
        dice = random.Random(17)
        for sizes, told in thrown_games(dice, 20, LARGEST):
            asked = [("told", c) for c in (1, 2, 3)]
            self.assertEqual(run(told + asked), model_run(told + asked))


class Twice(unittest.TestCase):
    def test_odd_one_among_three_evens(self):
        self.assertEqual(last(*ODD_ONE, ("twice",)), [10, 16])

    def test_one_question_each(self):
        begun = ("begin", 1, 1, 1, 1)
        self.assertEqual(last(begun, ("twice",)), [0, 1])
        self.assertEqual(last(begun, ("wins", 0, 0, 0, 0, 1), ("counts", 0, 0, 7), ("twice",)), [49, 49])
        self.assertEqual(last(begun, ("counts", 0, 0, 99), ("twice",)), [0, 9801])

    def test_two_pairs_that_cannot_both_be_won(self):
        # The first may answer each of two torn questions one way: a quarter is won, as by playing alone.
        self.assertEqual(last(*TORN, ("twice",)), [1, 4])
        self.assertEqual(last(*TORN, ("counts", 0, 0, 3), ("twice",)), [9, 16])

    def test_crossed(self):
        self.assertEqual(run(CROSSED + [("best",), ("twice",)])[5:], [[2, 4, 0, 1, 0, 1], [4, 16]])

    def test_no_answers_win_and_all_answers_win(self):
        self.assertEqual(last(("begin", 2, 2, 2, 2), ("twice",)), [0, 16])
        self.assertEqual(last(*all_win(2, 2, 2, 2), ("twice",)), [16, 16])
        most = [("counts", x, y, 99) for x in range(2) for y in range(2)]
        self.assertEqual(last(*all_win(2, 2, 2, 2), *most, ("twice",)), [156816, 156816])

    def test_pairs_that_count_nothing(self):
        self.assertEqual(last(*ODD_ONE, ("counts", 1, 0, 0), ("twice",)), [9, 9])
        self.assertEqual(last(*ODD_ONE, *nothing_counts(2, 2), ("twice",)), [0, 0])

    def test_too_many(self):
        for x, y, a, b in product(range(1, 4), range(1, 4), range(1, 5), range(1, 5)):
            answered = last(("begin", x, y, a, b), ("twice",))
            self.assertEqual(answered, [0, (x * y) ** 2] if max(x, y, a, b) <= 2 else [-28])

    def test_changes_nothing(self):
        calls = ODD_ONE + [("twice",), ("game",), ("best",), ("twice",)]
        self.assertEqual(run(calls)[5:], [[10, 16], [2, 2, 2, 2, 4, 4], [3, 4, 0, 0, 0, 0], [10, 16]])

    def test_against_all_plans_of_both(self):
        dice = random.Random(19)
        for sizes in product((1, 2), repeat=4):
            if sizes != (2, 2, 2, 2):
                for time in range(4):
                    told = loose_game(dice, sizes, 0.6, (0, 1, 2, 3))
                    self.assertEqual(last(*told, ("twice",))[0], self.most_of_all_plans(sizes, told))

    def most_of_all_plans(self, sizes, told):
        model = model_of(told)
        xs, ys, aa, bb = [list(product(range(size), repeat=2)) for size in sizes]
        most = 0
        for first in product(aa, repeat=len(xs)):
            for second in product(bb, repeat=len(ys)):
                won = 0
                for (x, a), (y, b) in product(zip(xs, first), zip(ys, second)):
                    if all((x[at], y[at], a[at], b[at]) in model.winning for at in (0, 1)):
                        won += model.much[(x[0], y[0])] * model.much[(x[1], y[1])]
                most = max(most, won)
        return most

    def test_every_size_against_model(self):
        dice = random.Random(23)
        for sizes in product((1, 2), repeat=4):
            for time in range(4):
                told = thrown_game(dice, sizes)
                self.assertEqual(last(*told, ("twice",)), model_run(told + [("twice",)])[-1])


if __name__ == "__main__":
    unittest.main()
