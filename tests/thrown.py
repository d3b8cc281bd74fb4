"""Games thrown by dice, as the calls that tell them; the tests give the dice a fixed seed."""

from itertools import product

SMALL = (2, 2, 3, 3)
LARGEST = (3, 3, 4, 4)
FOR_TWICE = (2, 2, 2, 2)
WEIGHTS = (0, 1, 1, 2, 3, 99)


def thrown_sizes(dice, most):
    return [dice.randint(1, size) for size in most]


def pairs_of(sizes):
    return list(product(range(sizes[0]), range(sizes[1])))


def thrown_counts(dice, sizes, weights=WEIGHTS):
    return [("counts", *pair, dice.choice(weights)) for pair in pairs_of(sizes)]


def loose_game(dice, sizes, share=0.5, weights=WEIGHTS):
    """Each pair of answers wins or not, whatever the others do."""
    spots = product(*[range(size) for size in sizes])
    told = [("begin", *sizes)] + [("wins", *spot, 1) for spot in spots if dice.random() < share]
    return told + thrown_counts(dice, sizes, weights)


def tight_game(dice, sizes, weights=WEIGHTS):
    """Each pair can be won, but to each answer of the first there is mostly one that wins."""
    told = [("begin", *sizes)]
    for pair in pairs_of(sizes):
        told += [("wins", *pair, a, dice.randrange(sizes[3]), 1) for a in range(sizes[2])]
    return told + thrown_counts(dice, sizes, weights)


def parity_game(dice, sizes, weights=WEIGHTS):
    told = [("begin", *sizes)] + [("odd", *pair, dice.randrange(2)) for pair in pairs_of(sizes)]
    return told + thrown_counts(dice, sizes, weights)


def thrown_game(dice, sizes, weights=WEIGHTS):
    kind = dice.choice([loose_game, tight_game, parity_game])
    return kind(dice, sizes, weights=weights)


def thrown_games(seed_dice, times, most, weights=WEIGHTS):
    """So many games, each with its sizes."""
    for time in range(times):
        sizes = thrown_sizes(seed_dice, most)
        yield sizes, thrown_game(seed_dice, sizes, weights)
