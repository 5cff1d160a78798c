"""Rows of lies of many kinds, laid over the letters of lying hands."""

import itertools
import random


def lies_at_random(letters, liars, words, chance):
    """For each letter of a lying hand perhaps a lie, now and then two of them, in any order."""
    lies = []
    for turn, path, to, word in letters:
        if path[-1] in liars:
            for time in range(chance.choice((0, 1, 1, 1, 2))):
                lies.append((turn, path, to, chance.choice(words)))
    chance.shuffle(lies)
    return lies


def lies_by_rule(letters, liars, rule):
    return [(turn, path, to, rule(turn, path, to, word)) for turn, path, to, word in letters if path[-1] in liars]


RULES = [
    lambda turn, path, to, word: None,
    lambda turn, path, to, word: 0,
    lambda turn, path, to, word: 9,
    lambda turn, path, to, word: 9 if to % 2 else 0,
    lambda turn, path, to, word: 9 if to % 2 else None,
    lambda turn, path, to, word: word if to % 2 else 9,
    lambda turn, path, to, word: 9 if to < 3 else -9,
    lambda turn, path, to, word: to,
    lambda turn, path, to, word: 100 + turn,
    lambda turn, path, to, word: path[-1] + to,
    lambda turn, path, to, word: 9 if (turn + to) % 2 else 4,
]


def many_kinds_of_lies(letters, liars, words, often, seed):
    for rule in RULES:
        yield lies_by_rule(letters, liars, rule)
    chance = random.Random(seed)
    for time in range(often):
        yield lies_at_random(letters, liars, words, chance)


def some_hands(many, most):
    """All sets of at most so many hands, as lists."""
    for number in range(most + 1):
        for hands in itertools.combinations(range(many), number):
            yield list(hands)
