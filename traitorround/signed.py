"""The signed way: letters whose paths tell who signed them, and a book of stamps that tells whether they did."""

from traitorround.settings import rounds_of
from traitorround.stamps import Book
from traitorround.words import STILL, hand_of, word_of

MOST_KEPT = 2


class Signed:
    def __init__(self, setting, sender, word, rounds=None):
        self.many = setting.many
        self.sender = hand_of(sender, setting.many)
        first = (word_of(word), ())
        turns = rounds_of(rounds, setting.bound)
        self.keeping = [[first] if hand == sender else [] for hand in range(setting.many)]
        self.book = Book()
        self.sent = []
        for turn in range(1, turns + 1):
            self.play_round(setting, turn)

    def play_round(self, setting, turn):
        # All stamps of the round are made ahead of any letter's being looked at.
        written = self.written_by_trues(setting, turn) + self.written_by_lies(setting, turn)
        for path, to, word in sorted(set(written)):
            good = self.book.genuine(path, word)
            self.sent.append((turn, path, to, word, good))
            if good and len(path) == turn and path[0] == self.sender:
                self.keep(to, word, path)

    def written_by_trues(self, setting, turn):
        written = []
        for hand in setting.trues():
            for word, path in self.keeping[hand]:
                if len(path) == turn - 1:
                    self.book.stamp(hand, path, word)
                    longer = path + (hand,)
                    written.extend([(longer, to, word) for to in range(self.many) if to not in longer])
        return written

    def written_by_lies(self, setting, turn):
        written = [lie[1:] for lie in setting.lies if lie[0] == turn and lie[3] is not None]
        for path, to, word in written:
            for ahead, hand in enumerate(path):
                if hand in setting.liars:
                    self.book.stamp(hand, path[:ahead], word)
        return written

    def keep(self, hand, word, path):
        kept = self.keeping[hand]
        if len(kept) < MOST_KEPT and word not in [row[0] for row in kept]:
            kept.append((word, path))

    def letters(self):
        return list(self.sent)

    def kept(self, hand):
        return list(self.keeping[hand_of(hand, self.many)])

    def ending(self, hand):
        kept = self.kept(hand)
        return kept[0][0] if len(kept) == 1 else STILL

    def endings(self):
        return [self.ending(hand) for hand in range(self.many)]

    def stamps(self):
        return self.book.stamps()
