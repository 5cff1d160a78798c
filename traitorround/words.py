"""Whole numbers, hands and words, the refusal of all else, and the tally of a list of words."""

from traitorround.errors import NoCount, NoHand, NoWord

STILL = 0


def is_whole(thing):
    return isinstance(thing, int) and not isinstance(thing, bool)


def is_hand(thing, many):
    return is_whole(thing) and 0 <= thing < many


def is_word(thing):
    return is_whole(thing) and abs(thing) < 10 ** 60


def count_of(thing, least, greatest):
    if not is_whole(thing) or not least <= thing <= greatest:
        raise NoCount(thing)
    return thing


def hand_of(thing, many):
    if not is_hand(thing, many):
        raise NoHand(thing)
    return thing


def word_of(thing):
    if not is_word(thing):
        raise NoWord(thing)
    return thing


def times(words, word):
    return words.count(word)


def tally(words):
    counts = {}
    for word in words:
        if word is not None:
            counts[word] = counts.get(word, 0) + 1
    return sorted(counts.items(), key=lambda row: (-row[1], row[0]))


def most(words):
    rows = tally(words)
    return rows[0][0] if rows else STILL


def strong(words, least):
    rows = tally(words)
    return rows[0][0] if rows and rows[0][1] >= least else None
