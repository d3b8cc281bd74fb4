"""The calls on a game of two who can't talk: how it is told, and what plans win in it."""

NO_SUCH = -2
NOT_BEGUN = -11
NOT_AS_TOLD = -22

MOST_QUESTIONS = 3
MOST_CHOICES = 4
MOST_WEIGHT = 99

BEGIN = 0
WINS = 1
ODD = 2
COUNTS = 3
VALUE = 4
BEST = 5
REPLY = 6
REPLYTO = 7
PLANS = 8

# Calls that are not built yet have their place here too: before a begin they are refused like the others,
# and the call behind them has to be found.
NUMBERS_OF_CALL = (4, 5, 3, 3, 0, 0, 0, 0, 1, 2, 0, 0, 1, 0, 0, 2, 0)
CALLS_WITH_A_ROW = (4, 6, 7)


def blank_table(first_choices, second_choices):
    """No answers win: a row for each answer of the first, in it a 0 for each of the second."""
    return [[0] * second_choices for a in range(first_choices)]


def parity_table(first_choices, second_choices, s):
    """Just those answers win whose numbers together are even (s is 0) or odd (s is 1)."""
    table = blank_table(first_choices, second_choices)
    for a in range(first_choices):
        for b in range(second_choices):
            if (a + b) % 2 == s:
                table[a][b] = 1
    return table


def is_row(row, questions, choices):
    """Whether the row has one answer, of those there are, to each question."""
    return len(row) == questions and all([answer < choices for answer in row])


def rows_in_order(questions, choices):
    """All rows of answers, the one with the lesser number where two first differ coming first."""
    rows = [[]]
    for question in range(questions):
        longer = []
        for row in rows:
            for answer in range(choices):
                longer.append(row + [answer])
        rows = longer
    return rows


def best_reply(gains):
    """The most that is won, then for each question the least answer with which most is won there."""
    return [sum([max(gain) for gain in gains])] + [gain.index(max(gain)) for gain in gains]


def what_rows_win(gains):
    """What each row of answers wins, where each answer to a question wins as much as gains say."""
    totals = [0]
    for gain in gains:
        longer = []
        for total in totals:
            for won in gain:
                longer.append(total + won)
        totals = longer
    return totals


class Game:
    """How many questions and answers both have, which answers win, and how much each pair counts."""

    def __init__(self, first_asked, second_asked, first_choices, second_choices):
        self.first_asked = first_asked
        self.second_asked = second_asked
        self.first_choices = first_choices
        self.second_choices = second_choices
        self.weights = {}
        self.tables = {}
        for x in range(first_asked):
            for y in range(second_asked):
                self.weights[(x, y)] = 1
                self.tables[(x, y)] = blank_table(first_choices, second_choices)

    def has_pair(self, x, y):
        return x < self.first_asked and y < self.second_asked

    def has_choices(self, a, b):
        return a < self.first_choices and b < self.second_choices

    def is_first_row(self, row):
        return is_row(row, self.first_asked, self.first_choices)

    def is_second_row(self, row):
        return is_row(row, self.second_asked, self.second_choices)

    def total_weight(self):
        return sum(self.weights.values())

    def gain_at_second(self, first_row, y):
        """What each answer of the second to y wins there, if the first answers by the row."""
        gain = [0] * self.second_choices
        for x in range(self.first_asked):
            weight = self.weights[(x, y)]
            winning = self.tables[(x, y)][first_row[x]]
            for b in range(self.second_choices):
                gain[b] += weight * winning[b]
        return gain

    def gain_at_first(self, second_row, x):
        """What each answer of the first to x wins there, if the second answers by the row."""
        gain = [0] * self.first_choices
        for y in range(self.second_asked):
            weight = self.weights[(x, y)]
            table = self.tables[(x, y)]
            for a in range(self.first_choices):
                gain[a] += weight * table[a][second_row[y]]
        return gain

    def gains_of_second(self, first_row):
        return [self.gain_at_second(first_row, y) for y in range(self.second_asked)]

    def gains_of_first(self, second_row):
        return [self.gain_at_first(second_row, x) for x in range(self.first_asked)]

    def wins(self, x, y, a, b, v):
        if not self.has_pair(x, y) or not self.has_choices(a, b):
            return [NO_SUCH]
        if v > 1:
            return [NOT_AS_TOLD]
        winning = self.tables[(x, y)][a]
        before = winning[b]
        winning[b] = v
        return [before]

    def odd(self, x, y, s):
        if not self.has_pair(x, y):
            return [NO_SUCH]
        if s > 1:
            return [NOT_AS_TOLD]
        self.tables[(x, y)] = parity_table(self.first_choices, self.second_choices, s)
        return [0]

    def counts(self, x, y, how_much):
        if not self.has_pair(x, y):
            return [NO_SUCH]
        if how_much > MOST_WEIGHT:
            return [NOT_AS_TOLD]
        before = self.weights[(x, y)]
        self.weights[(x, y)] = how_much
        return [before]

    def value(self, row):
        first_row = row[:self.first_asked]
        second_row = row[self.first_asked:]
        if not self.is_first_row(first_row) or not self.is_second_row(second_row):
            return [NOT_AS_TOLD]
        won = 0
        for y in range(self.second_asked):
            won += self.gain_at_second(first_row, y)[second_row[y]]
        return [won, self.total_weight()]

    def best(self):
        # Beside one row of the first's the second's questions don't touch each other, so the reply is
        # also the first in order of the second's rows that win as much.
        most = -1
        plan = []
        for first_row in rows_in_order(self.first_asked, self.first_choices):
            replied = best_reply(self.gains_of_second(first_row))
            if replied[0] > most:
                most = replied[0]
                plan = first_row + replied[1:]
        return [most, self.total_weight()] + plan

    def reply(self, row):
        if not self.is_first_row(row):
            return [NOT_AS_TOLD]
        return best_reply(self.gains_of_second(row))

    def replyto(self, row):
        if not self.is_second_row(row):
            return [NOT_AS_TOLD]
        return best_reply(self.gains_of_first(row))

    def plans(self, t):
        just_so_much = 0
        in_all = 0
        for first_row in rows_in_order(self.first_asked, self.first_choices):
            totals = what_rows_win(self.gains_of_second(first_row))
            just_so_much += totals.count(t)
            in_all += len(totals)
        return [just_so_much, in_all]


def is_game(x, y, a, b):
    """Whether there may be so many questions and so many answers."""
    asked = 1 <= x and x <= MOST_QUESTIONS and 1 <= y and y <= MOST_QUESTIONS
    return asked and 1 <= a and a <= MOST_CHOICES and 1 <= b and b <= MOST_CHOICES


def answer_of_game(game, call, numbers):
    if call == WINS:
        return game.wins(numbers[0], numbers[1], numbers[2], numbers[3], numbers[4])
    if call == ODD:
        return game.odd(numbers[0], numbers[1], numbers[2])
    if call == COUNTS:
        return game.counts(numbers[0], numbers[1], numbers[2])
    if call == VALUE:
        return game.value(numbers)
    if call == BEST:
        return game.best()
    if call == REPLY:
        return game.reply(numbers)
    if call == REPLYTO:
        return game.replyto(numbers)
    if call == PLANS:
        return game.plans(numbers[0])
    raise NotImplementedError("this call is not built yet")


class Line:
    """The object of one list of calls: nothing is begun at first, then there is the game begun last."""

    def __init__(self):
        self.begun = None

    def begin(self, x, y, a, b):
        if not is_game(x, y, a, b):
            return [NOT_AS_TOLD]
        self.begun = Game(x, y, a, b)
        return [0]

    def answer(self, call, numbers):
        if call == BEGIN:
            return self.begin(numbers[0], numbers[1], numbers[2], numbers[3])
        if self.begun is None:
            return [NOT_BEGUN]
        return answer_of_game(self.begun, call, numbers)


def start_of_numbers(calls, at):
    """Where the numbers, or the row, of the call that stands at this place begin."""
    if calls[at] in CALLS_WITH_A_ROW:
        return at + 2
    return at + 1


def how_many_numbers(calls, at):
    if calls[at] in CALLS_WITH_A_ROW:
        return calls[at + 1]
    return NUMBERS_OF_CALL[calls[at]]


def answers(calls):
    """For each call on one new object, in order: how many numbers are answered, and these."""
    line = Line()
    given = []
    at = 0
    while at < len(calls):
        start = start_of_numbers(calls, at)
        behind = start + how_many_numbers(calls, at)
        answered = line.answer(calls[at], calls[start:behind])
        given.append(len(answered))
        given.extend(answered)
        at = behind
    return given
