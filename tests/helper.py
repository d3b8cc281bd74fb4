"""What the tests share: calls written by name, answers call by call, and a slow model to compare with."""

from itertools import combinations, product

from twoaskedapart.plans import answers

FAR = 4294967295

NUMBER_OF = {
    "begin": 0, "wins": 1, "odd": 2, "counts": 3, "value": 4, "best": 5, "reply": 6, "replyto": 7, "plans": 8,
    "nth": 9, "perfect": 10, "core": 11, "told": 12, "twice": 13, "swap": 14, "pair": 15, "game": 16,
}

# An odd one among three evens: of four pairs of questions only three can be won.
ODD_ONE = [("begin", 2, 2, 2, 2), ("odd", 0, 0, 0), ("odd", 0, 1, 0), ("odd", 1, 0, 0), ("odd", 1, 1, 1)]

# Asked alone, the first can't answer so that both of the second's questions are won.
TORN = [("begin", 1, 2, 2, 1), ("wins", 0, 0, 1, 0, 1), ("wins", 0, 1, 0, 0, 1)]

# The second has to say what the first was asked: words help, each as much as a question counts.
GUESS = [("begin", 3, 1, 1, 3), ("wins", 0, 0, 0, 0, 1), ("wins", 1, 0, 0, 1, 1), ("wins", 2, 0, 0, 2, 1)]


def encode(calls):
    """The one list of whole numbers for calls like ("plans", 3) or ("value", [0, 1])."""
    numbers = []
    for name, *told in calls:
        numbers.append(NUMBER_OF[name])
        for one in told:
            if isinstance(one, list):
                numbers.append(len(one))
                numbers.extend(one)
            else:
                numbers.append(one)
    return numbers


def split(given):
    """The answers call by call, out of the one list that is given back."""
    answered = []
    at = 0
    while at < len(given):
        end = at + 1 + given[at]
        if end > len(given):
            raise AssertionError("the last answer is cut short")
        answered.append(given[at + 1:end])
        at = end
    return answered


def run(calls):
    answered = split(answers(encode(calls)))
    if len(answered) != len(calls):
        raise AssertionError("not one answer for each call")
    return answered


def last(*calls):
    """What the last of the calls answers."""
    return run(list(calls))[-1]


def all_win(x, y, a, b):
    spots = product(range(x), range(y), range(a), range(b))
    return [("begin", x, y, a, b)] + [("wins", *spot, 1) for spot in spots]


def nothing_counts(x, y):
    return [("counts", i, j, 0) for i, j in product(range(x), range(y))]


def told_exchanged(calls):
    """The calls that tell the same game with the first and the second exchanged."""
    turn = {"begin": (1, 0, 3, 2), "wins": (1, 0, 3, 2, 4), "odd": (1, 0, 2), "counts": (1, 0, 2)}
    return [(name, *[told[place] for place in turn[name]]) for name, *told in calls]


class Model:
    """The same calls, answered straight from the document's words by trying every plan."""

    def __init__(self):
        self.sizes = None
        self.winning = set()
        self.much = {}

    def answer(self, call):
        name, *told = call
        if name == "begin":
            return self.begin(*told)
        if self.sizes is None:
            return [-11]
        return getattr(self, name)(*told)

    def begin(self, x, y, a, b):
        if x not in range(1, 4) or y not in range(1, 4) or a not in range(1, 5) or b not in range(1, 5):
            return [-22]
        self.sizes = (x, y, a, b)
        self.winning = set()
        self.much = {pair: 1 for pair in product(range(x), range(y))}
        return [0]

    def wins(self, x, y, a, b, v):
        if any(number >= size for number, size in zip((x, y, a, b), self.sizes)):
            return [-2]
        if v not in (0, 1):
            return [-22]
        before = 1 if (x, y, a, b) in self.winning else 0
        self.winning.discard((x, y, a, b))
        if v == 1:
            self.winning.add((x, y, a, b))
        return [before]

    def odd(self, x, y, s):
        if (x, y) not in self.much:
            return [-2]
        if s not in (0, 1):
            return [-22]
        for a, b in product(range(self.sizes[2]), range(self.sizes[3])):
            self.wins(x, y, a, b, 1 if (a + b) % 2 == s else 0)
        return [0]

    def counts(self, x, y, how_much):
        if (x, y) not in self.much:
            return [-2]
        if how_much > 99:
            return [-22]
        before = self.much[(x, y)]
        self.much[(x, y)] = how_much
        return [before]

    def first_rows(self):
        return list(product(range(self.sizes[2]), repeat=self.sizes[0]))

    def second_rows(self):
        return list(product(range(self.sizes[3]), repeat=self.sizes[1]))

    def won(self, first, second):
        return sum(much for (x, y), much in self.much.items() if (x, y, first[x], second[y]) in self.winning)

    def all_plans(self):
        return [(self.won(first, second), first + second)
                for first in self.first_rows() for second in self.second_rows()]

    def value(self, row):
        for won, plan in self.all_plans():
            if list(plan) == row:
                return [won, sum(self.much.values())]
        return [-22]

    def best(self):
        plans = self.all_plans()
        most = max(won for won, plan in plans)
        plan = min(plan for won, plan in plans if won == most)
        return [most, sum(self.much.values()), *plan]

    def reply(self, row):
        if tuple(row) not in self.first_rows():
            return [-22]
        most = max(self.won(row, second) for second in self.second_rows())
        return [most, *min(second for second in self.second_rows() if self.won(row, second) == most)]

    def replyto(self, row):
        if tuple(row) not in self.second_rows():
            return [-22]
        most = max(self.won(first, row) for first in self.first_rows())
        return [most, *min(first for first in self.first_rows() if self.won(first, row) == most)]

    def plans(self, t):
        plans = self.all_plans()
        return [sum(1 for won, plan in plans if won == t), len(plans)]

    def nth(self, t, k):
        just = sorted(plan for won, plan in self.all_plans() if won == t)
        return [self.sizes[0] + self.sizes[1], *just[k]] if k < len(just) else [-33]

    def sets_won(self):
        """For each plan the pairs that it wins, whether they count or not."""
        return {frozenset((x, y) for x, y in self.much if (x, y, first[x], second[y]) in self.winning)
                for first in self.first_rows() for second in self.second_rows()}

    def counting(self):
        return sorted(pair for pair, much in self.much.items() if much > 0)

    def perfect(self):
        return [1 if any(won >= set(self.counting()) for won in self.sets_won()) else 0]

    def core(self):
        won_sets = self.sets_won()
        for size in range(1, 10):
            for pairs in combinations(self.counting(), size):
                if not any(won >= set(pairs) for won in won_sets):
                    return [size, *[number for pair in pairs for number in pair]]
        return [-33]

    def heard(self):
        x, y, a, b = self.sizes
        return sum(max(sum(self.much[(i, j)] for j in range(y)
                           if any((i, j, k, m) in self.winning for m in range(b))) for k in range(a))
                   for i in range(x))

    def told(self, c):
        if c not in (1, 2, 3):
            return [-22]
        x, y, a, b = self.sizes
        most = 0
        for said in product(product(range(c), range(a)), repeat=x):
            won = 0
            for word, j in product(range(c), range(y)):
                here = [i for i in range(x) if said[i][0] == word]
                won += max(sum(self.much[(i, j)] for i in here if (i, j, said[i][1], m) in self.winning)
                           for m in range(b))
            most = max(most, won)
        return [most, self.heard()]

    def twice(self):
        if max(self.sizes) > 2:
            return [-28]
        x, y, a, b = [list(product(range(size), repeat=2)) for size in self.sizes]
        most = 0
        for said in product(a, repeat=len(x)):
            most = max(most, sum(max(sum(self.much[(i[0], j[0])] * self.much[(i[1], j[1])]
                                         for i, k in zip(x, said)
                                         if (i[0], j[0], k[0], m[0]) in self.winning
                                         and (i[1], j[1], k[1], m[1]) in self.winning) for m in b) for j in y))
        return [most, sum(one * two for one in self.much.values() for two in self.much.values())]

    def swap(self):
        self.sizes = (self.sizes[1], self.sizes[0], self.sizes[3], self.sizes[2])
        self.winning = {(y, x, b, a) for x, y, a, b in self.winning}
        self.much = {(y, x): much for (x, y), much in self.much.items()}
        return [0]

    def pair(self, x, y):
        if (x, y) not in self.much:
            return [-2]
        return [self.much[(x, y)], *[1 if (x, y, a, b) in self.winning else 0
                                     for a in range(self.sizes[2]) for b in range(self.sizes[3])]]

    def game(self):
        return [*self.sizes, sum(self.much.values()), self.heard()]


def model_run(calls):
    model = Model()
    return [model.answer(call) for call in calls]
