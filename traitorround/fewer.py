"""One round fewer: what makes signed letters and floods that are cut short by a round end unlike."""

from traitorround.errors import NoWord
from traitorround.settings import GREATEST_BOUND, MOST_HANDS, Setting
from traitorround.words import STILL, count_of, hand_of, word_of


def short_stamps(many, bound, sender, word):
    look_at_counts(many, bound)
    hand_of(sender, many)
    if word_of(word) == STILL:
        raise NoWord(word)
    liars = tuple([(sender + step) % many for step in range(bound)])
    return Setting(many, bound, liars, [(bound, liars, (sender + bound) % many, word)])


def short_floods(many, bound):
    look_at_counts(many, bound)
    return [(hand, hand + 1, (hand + 1,)) for hand in range(bound)]


def look_at_counts(many, bound):
    count_of(bound, 1, GREATEST_BOUND)
    count_of(many, bound + 2, MOST_HANDS)
