"""Kings: letters of one word each, phases of three rounds, and in each phase a king whom the undecided follow."""

from traitorround.hands import Hand, with_liars
from traitorround.plays import Play
from traitorround.words import STILL, hand_of, strong, times, word_of


class KingHand(Hand):
    def __init__(self, number, many, bound, sender, word):
        Hand.__init__(self, number, many, rounds_for(bound))
        self.bound = bound
        self.sender = sender
        self.word = word
        self.held = word
        self.backing = 0
        self.holdings = []

    def say(self, turn):
        if self.number not in self.writers(turn):
            return []
        return [((self.number,), to, self.held) for to in range(self.many) if to != self.number]

    def writers(self, turn):
        if turn == 1:
            return [self.sender]
        if step_of(turn) == 2:
            return [self.king_of(turn)]
        return list(range(self.many))

    def king_of(self, turn):
        return (turn - 2) // 3 % self.many

    def hear(self, turn, letters):
        if turn == 1:
            self.hear_sender(letters)
        elif step_of(turn) == 0:
            self.held = strong(self.all_words(letters), max(self.many - self.bound, 1))
        elif step_of(turn) == 1:
            self.hear_backing(letters)
        else:
            self.hear_king(turn, letters)
        self.holdings.append(self.held)

    def all_words(self, letters):
        return [self.held] + [word for path, word in letters]

    def hear_sender(self, letters):
        if self.number != self.sender:
            self.held = word_from(self.sender, letters)

    def hear_backing(self, letters):
        words = self.all_words(letters)
        self.held = strong(words, self.bound + 1)
        self.backing = 0 if self.held is None else times(words, self.held)

    def hear_king(self, turn, letters):
        # A hand that holds a word with enough backing may be sure that the other true hands hold it too.
        if self.held is not None and self.backing >= self.many - self.bound:
            return
        king = self.king_of(turn)
        if self.number != king:
            self.held = word_from(king, letters)
        elif self.held is None:
            self.held = STILL

    def story(self):
        return list(self.holdings)

    def ending(self):
        return self.word if self.number == self.sender else self.held


class Kings(Play):
    def __init__(self, setting, sender, word):
        hand_of(sender, setting.many)
        word_of(word)
        hands = king_hands(setting.many, setting.bound, sender, word)
        Play.__init__(self, hands, with_liars(hands, setting), rounds_for(setting.bound))

    def story(self, hand):
        return self.hand_at(hand).story()


def king_hands(many, bound, sender, word):
    return [KingHand(hand, many, bound, sender, word if hand == sender else None) for hand in range(many)]


def rounds_for(bound):
    return 1 + 3 * (bound + 1)


def step_of(turn):
    return (turn - 2) % 3


def word_from(writer, letters):
    for path, word in letters:
        if path == (writer,) and word is not None:
            return word
    return STILL
