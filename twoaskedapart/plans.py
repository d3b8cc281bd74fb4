"""The calls on a game of two who can't talk: how it is told, and what plans win in it."""

NO_SUCH = -2
NOT_BEGUN = -11
NOT_AS_TOLD = -22
TOO_MANY = -28
THERE_IS_NONE = -33

MOST_QUESTIONS = 3
MOST_CHOICES = 4
MOST_WEIGHT = 99
MOST_WORDS = 3
MOST_FOR_TWICE = 2

BEGIN = 0
WINS = 1
ODD = 2
COUNTS = 3
VALUE = 4
BEST = 5
REPLY = 6
REPLYTO = 7
PLANS = 8
NTH = 9
PERFECT = 10
CORE = 11
TOLD = 12
TWICE = 13
SWAP = 14
PAIR = 15

NUMBERS_OF_CALL = (4, 5, 3, 3, 0, 0, 0, 0, 1, 2, 0, 0, 1, 0, 0, 2, 0)
CALLS_WITH_A_ROW = (4, 6, 7)


def is_row(row, questions, choices):
    """Whether the row has one answer, of those there are, to each question."""
    return len(row) == questions and all([answer < choices for answer in row])


def rows_in_order(questions, choices):
    """All rows of answers, the one with the lesser number where two first differ coming first."""
    rows = [[]]
    for question in range(questions):
        longer = []
        for row in rows:
            for answer in range(choices):
                longer.append(row + [answer])
        rows = longer
    return rows


def what_rows_win(gains):
    """What each row of answers wins, in order, where each answer to a question wins as much as gains say."""
    totals = [0]
    for gain in gains:
        longer = []
        for total in totals:
            for won in gain:
                longer.append(total + won)
        totals = longer
    return totals


def best_reply(gains):
    """The most that is won, then for each question the least answer with which most is won there."""
    return [sum([max(gain) for gain in gains])] + [gain.index(max(gain)) for gain in gains]


def sums_never_won(won, marks):
    """The sums of marks, the greatest first, whose marks are not all in any one of the sums that are won."""
    within = {}
    never = []
    for some in range(sum(marks), -1, -1):
        larger = [some + mark for mark in marks if (some & mark) == 0]
        if some in won or any([more in within for more in larger]):
            within[some] = True
        else:
            never.append(some)
    return never


class Game:
    """How many questions and answers both have, which answers win, and how much each pair counts."""

    def __init__(self, first_asked, second_asked, first_choices, second_choices):
        self.first_asked = first_asked
        self.second_asked = second_asked
        self.first_choices = first_choices
        self.second_choices = second_choices
        # The keys of both stay in the order in which they are put here: that of the pairs, and of the answers.
        self.weights = {}
        self.winning = {}
        for x in range(first_asked):
            for y in range(second_asked):
                self.weights[(x, y)] = 1
                for a in range(first_choices):
                    for b in range(second_choices):
                        self.winning[(x, y, a, b)] = 0

    def exchanged(self):
        """The same game, with the first and the second exchanged."""
        other = Game(self.second_asked, self.first_asked, self.second_choices, self.first_choices)
        for x, y in list(self.weights):
            other.weights[(y, x)] = self.weights[(x, y)]
        for x, y, a, b in list(self.winning):
            other.winning[(y, x, b, a)] = self.winning[(x, y, a, b)]
        return other

    def narrowed(self, kept):
        """The game in which the first is asked only the questions that are kept."""
        other = Game(len(kept), self.second_asked, self.first_choices, self.second_choices)
        for x, y in list(other.weights):
            other.weights[(x, y)] = self.weights[(kept[x], y)]
        for x, y, a, b in list(other.winning):
            other.winning[(x, y, a, b)] = self.winning[(kept[x], y, a, b)]
        return other

    def weighed(self, weights):
        """The same game, in which the pairs count otherwise."""
        other = self.narrowed(list(range(self.first_asked)))
        for asked in list(weights):
            other.weights[asked] = weights[asked]
        return other

    def doubled(self):
        """The game played twice at once; one number tells two questions, or two answers."""
        xs = self.first_asked
        ys = self.second_asked
        aa = self.first_choices
        bb = self.second_choices
        other = Game(xs * xs, ys * ys, aa * aa, bb * bb)
        for x, y in list(other.weights):
            other.weights[(x, y)] = self.weights[(x // xs, y // ys)] * self.weights[(x % xs, y % ys)]
        for x, y, a, b in list(other.winning):
            one = self.winning[(x // xs, y // ys, a // aa, b // bb)]
            two = self.winning[(x % xs, y % ys, a % aa, b % bb)]
            other.winning[(x, y, a, b)] = one * two
        return other

    def total_weight(self):
        return sum(self.weights.values())

    def first_rows(self):
        return rows_in_order(self.first_asked, self.first_choices)

    def second_rows(self):
        return rows_in_order(self.second_asked, self.second_choices)

    def gain(self, first_row, y):
        """What each answer of the second to y wins there, if the first answers by the row."""
        won = [0] * self.second_choices
        for x in range(self.first_asked):
            a = first_row[x]
            weight = self.weights[(x, y)]
            for b in range(self.second_choices):
                won[b] += weight * self.winning[(x, y, a, b)]
        return won

    def gains(self, first_row):
        return [self.gain(first_row, y) for y in range(self.second_asked)]

    def what_plans_win(self):
        """What each plan wins, in the order of the plans."""
        totals = []
        for first_row in self.first_rows():
            totals.extend(what_rows_win(self.gains(first_row)))
        return totals

    def wins(self, x, y, a, b, v):
        if (x, y, a, b) not in self.winning:
            return [NO_SUCH]
        if v > 1:
            return [NOT_AS_TOLD]
        before = self.winning[(x, y, a, b)]
        self.winning[(x, y, a, b)] = v
        return [before]

    def odd(self, x, y, s):
        if (x, y) not in self.weights:
            return [NO_SUCH]
        if s > 1:
            return [NOT_AS_TOLD]
        for a in range(self.first_choices):
            for b in range(self.second_choices):
                self.winning[(x, y, a, b)] = 1 if (a + b) % 2 == s else 0
        return [0]

    def counts(self, x, y, how_much):
        if (x, y) not in self.weights:
            return [NO_SUCH]
        if how_much > MOST_WEIGHT:
            return [NOT_AS_TOLD]
        before = self.weights[(x, y)]
        self.weights[(x, y)] = how_much
        return [before]

    def value(self, row):
        first_row = row[:self.first_asked]
        second_row = row[self.first_asked:]
        if not is_row(first_row, self.first_asked, self.first_choices):
            return [NOT_AS_TOLD]
        if not is_row(second_row, self.second_asked, self.second_choices):
            return [NOT_AS_TOLD]
        won = [self.gain(first_row, y)[second_row[y]] for y in range(self.second_asked)]
        return [sum(won), self.total_weight()]

    def best(self):
        # Beside one row of the first's the second's questions don't touch each other, so the reply is
        # also the first in order of the second's rows that win as much.
        most = -1
        plan = []
        for first_row in self.first_rows():
            replied = best_reply(self.gains(first_row))
            if replied[0] > most:
                most = replied[0]
                plan = first_row + replied[1:]
        return [most, self.total_weight()] + plan

    def reply(self, row):
        if not is_row(row, self.first_asked, self.first_choices):
            return [NOT_AS_TOLD]
        return best_reply(self.gains(row))

    def replyto(self, row):
        return self.exchanged().reply(row)

    def plans(self, t):
        totals = self.what_plans_win()
        return [totals.count(t), len(totals)]

    def nth(self, t, k):
        places = [place for place, total in enumerate(self.what_plans_win()) if total == t]
        if k >= len(places):
            return [THERE_IS_NONE]
        second_rows = self.second_rows()
        first_row = self.first_rows()[places[k] // len(second_rows)]
        second_row = second_rows[places[k] % len(second_rows)]
        return [self.first_asked + self.second_asked] + first_row + second_row

    def perfect(self):
        return [1 if self.best()[0] == self.total_weight() else 0]

    def marks(self):
        """For each pair that counts a number greater than those of all later ones together, else 0."""
        marks = {}
        mark = 1
        for asked in reversed(list(self.weights)):
            marks[asked] = 0
            if self.weights[asked] > 0:
                marks[asked] = mark
                mark += mark
        return marks

    def core(self):
        # If pairs count as much as their marks, what a plan wins tells which pairs it wins; and of the sets
        # of as many pairs the first in order has the greatest sum.
        marks = self.marks()
        won = {}
        for total in self.weighed(marks).what_plans_win():
            won[total] = True
        never = sums_never_won(won, list(marks.values()))
        if never == []:
            return [THERE_IS_NONE]
        sets = [[asked for asked in self.weights if (some & marks[asked]) > 0] for some in never]
        fewest = min(sets, key=len)
        answered = [len(fewest)]
        for asked in fewest:
            answered.extend(asked)
        return answered

    def heard(self):
        """What could be won if the second heard the first's question: each is then a game of its own."""
        return sum([self.narrowed([x]).best()[0] for x in range(self.first_asked)])

    def told(self, c):
        if c < 1 or c > MOST_WORDS:
            return [NOT_AS_TOLD]
        # Each word leaves a game of its own, in which the first is asked just where they tell that word.
        won_by_group = {}
        most = 0
        for words in rows_in_order(self.first_asked, c):
            won = 0
            for word in range(c):
                group = tuple([x for x in range(self.first_asked) if words[x] == word])
                if group not in won_by_group:
                    won_by_group[group] = self.narrowed(group).best()[0]
                won += won_by_group[group]
            most = max(most, won)
        return [most, self.heard()]

    def twice(self):
        if max(self.first_asked, self.second_asked, self.first_choices, self.second_choices) > MOST_FOR_TWICE:
            return [TOO_MANY]
        return self.doubled().best()[:2]

    def pair(self, x, y):
        if (x, y) not in self.weights:
            return [NO_SUCH]
        return [self.weights[(x, y)]] + [self.winning[spot] for spot in self.winning if spot[:2] == (x, y)]

    def game(self):
        sizes = [self.first_asked, self.second_asked, self.first_choices, self.second_choices]
        return sizes + [self.total_weight(), self.heard()]


def is_game(x, y, a, b):
    """Whether there may be so many questions and so many answers."""
    asked = 1 <= x and x <= MOST_QUESTIONS and 1 <= y and y <= MOST_QUESTIONS
    return asked and 1 <= a and a <= MOST_CHOICES and 1 <= b and b <= MOST_CHOICES


def answer_of_game(game, call, numbers):
    if call == WINS:
        return game.wins(numbers[0], numbers[1], numbers[2], numbers[3], numbers[4])
    if call == ODD:
        return game.odd(numbers[0], numbers[1], numbers[2])
    if call == COUNTS:
        return game.counts(numbers[0], numbers[1], numbers[2])
    if call == VALUE:
        return game.value(numbers)
    if call == BEST:
        return game.best()
    if call == REPLY:
        return game.reply(numbers)
    if call == REPLYTO:
        return game.replyto(numbers)
    if call == PLANS:
        return game.plans(numbers[0])
    if call == NTH:
        return game.nth(numbers[0], numbers[1])
    if call == PERFECT:
        return game.perfect()
    if call == CORE:
        return game.core()
    if call == TOLD:
        return game.told(numbers[0])
    if call == TWICE:
        return game.twice()
    if call == PAIR:
        return game.pair(numbers[0], numbers[1])
    return game.game()


class Line:
    """The object of one list of calls: nothing is begun at first, then there is the game begun last."""

    def __init__(self):
        self.begun = None

    def begin(self, x, y, a, b):
        if not is_game(x, y, a, b):
            return [NOT_AS_TOLD]
        self.begun = Game(x, y, a, b)
        return [0]

    def swap(self):
        self.begun = self.begun.exchanged()
        return [0]

    def answer(self, call, numbers):
        if call == BEGIN:
            return self.begin(numbers[0], numbers[1], numbers[2], numbers[3])
        if self.begun is None:
            return [NOT_BEGUN]
        if call == SWAP:
            return self.swap()
        return answer_of_game(self.begun, call, numbers)


def start_of_numbers(calls, at):
    """Where the numbers, or the row, of the call that stands at this place begin."""
    if calls[at] in CALLS_WITH_A_ROW:
        return at + 2
    return at + 1


def how_many_numbers(calls, at):
    if calls[at] in CALLS_WITH_A_ROW:
        return calls[at + 1]
    return NUMBERS_OF_CALL[calls[at]]


def answers(calls):
    """For each call on one new object, in order: how many numbers are answered, and these."""
    line = Line()
    given = []
    at = 0
    while at < len(calls):
        start = start_of_numbers(calls, at)
        behind = start + how_many_numbers(calls, at)
        answered = line.answer(calls[at], calls[start:behind])
        given.append(len(answered))
        given.extend(answered)
        at = behind
    return given
