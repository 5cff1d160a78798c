import itertools
import random
import unittest

from rows import lies_at_random, many_kinds_of_lies, some_hands
from things import TOP, assert_refused, no_wholes

from traitorround.errors import NoHand, NoWord
from traitorround.hands import Hand
from traitorround.kings import KingHand, Kings
from traitorround.settings import Setting


def first_word(words):
    """The first word of the tally and how often it stands there."""
    there = [word for word in words if word is not None]
    return max([(there.count(word), -word) for word in there], default=(0, 0))


def strong_of(words, least):
    count, word = first_word(words)
    return -word if count >= max(least, 1) else None


class Reckoned:
    """Kings played anew from the document's words, all hands at once, with lists alone."""

    def __init__(self, setting, sender, word):
        self.setting, self.turn, self.letters = setting, 0, []
        many, bound = setting.many, setting.bound
        self.stories = [[] for hand in range(many)]
        came = self.written({sender: word})
        held = [came[hand].get(sender) or 0 for hand in range(many)]
        held[sender] = word
        self.note(held)
        for phase in range(bound + 1):
            came = self.written(dict(enumerate(held)))
            held = [strong_of([held[k]] + list(came[k].values()), many - bound) for k in range(many)]
            self.note(held)
            came = self.written(dict(enumerate(held)))
            lists = [[held[k]] + list(came[k].values()) for k in range(many)]
            held = [strong_of(words, bound + 1) for words in lists]
            backing = [0 if held[k] is None else lists[k].count(held[k]) for k in range(many)]
            self.note(held)
            king = phase % many
            came = self.written({king: held[king]})
            for k in range(many):
                kings_word = (held[k] if k == king else came[k].get(king)) or 0
                if held[k] is None or backing[k] < many - bound:
                    held[k] = kings_word
            self.note(held)
        self.ends = [word if hand == sender else held[hand] for hand in range(many)]

    def note(self, held):
        for story, word in zip(self.stories, held):
            story.append(word)

    def written(self, words):
        self.turn += 1
        came = [{} for hand in range(self.setting.many)]
        for writer in sorted(words):
            for to in range(self.setting.many):
                if to != writer:
                    word = words[writer]
                    if writer in self.setting.liars:
                        for lie in self.setting.lies:
                            if lie[:3] == (self.turn, (writer,), to):
                                word = lie[3]
                    came[to][writer] = word
                    self.letters.append((self.turn, (writer,), to, word))
        return came


def samples(often):
    chance = random.Random(6)
    for many in range(1, 8):
        for bound in range(6):
            for time in range(often):
                sender = chance.randrange(many)
                liars = chance.sample(range(many), chance.randrange(min(many, 3) + 1))
                letters = Reckoned(Setting(many, bound), sender, 5).letters
                lies = lies_at_random(letters, range(many), [0, 5, 9, None, -TOP], chance)
                # Lies in the king's round, of hands that are mostly no kings in it.
                lies = lies + [(4, path, to, 77) for turn, path, to, word in letters[::3] if turn == 2]
                yield Setting(many, bound, liars, lies), sender, chance.choice((5, 0, TOP))


class TestReckonedAnew(unittest.TestCase):
    def test_letters_stories_and_endings(self):
        for setting, sender, word in samples(4):
            play, anew = Kings(setting, sender, word), Reckoned(setting, sender, word)
            self.assertEqual(play.letters(), anew.letters)
            hands = range(setting.many)
            self.assertEqual([play.story(hand) for hand in hands], anew.stories)
            self.assertEqual([play.ending(hand) for hand in hands], anew.ends)
            self.assertEqual(play.endings(), anew.ends)
            self.assertEqual(play.ending(sender), word)

    def test_numbers_of_rounds_and_letters(self):
        for many in range(1, 8):
            for bound in range(6):
                play = Kings(Setting(many, bound, [0]), many - 1, 5)
                letters = play.letters()
                due = many - 1 + (bound + 1) * (2 * many * (many - 1) + many - 1)
                self.assertEqual(len(letters), due)
                rounds = 1 + 3 * (bound + 1)
                self.assertEqual(len(play.story(0)), rounds)
                if many > 1:
                    self.assertEqual(letters[-1][0], rounds)
                self.assertEqual(KingHand(0, many, bound, 0, 5).rounds, rounds)


def letters_of(words):
    """Letters of the hands that are told as a dict from hands to words."""
    return [((hand,), words[hand]) for hand in sorted(words)]


def told(hand, *rounds):
    """The hand's story, when it is told these rounds' words."""
    for turn, words in enumerate(rounds, len(hand.story()) + 1):
        hand.hear(turn, letters_of(words))
    return hand.story()


class TestKingHand(unittest.TestCase):
    def test_fields(self):
        hand = KingHand(2, 5, 1, 0, None)
        self.assertIsInstance(hand, Hand)
        self.assertEqual((hand.number, hand.many, hand.rounds), (2, 5, 7))

    def test_the_senders_round(self):
        sender = KingHand(1, 4, 1, 1, -8)
        self.assertEqual(sender.say(1), [((1,), 0, -8), ((1,), 2, -8), ((1,), 3, -8)])
        self.assertEqual(sender.story(), [])
        self.assertIsNone(sender.hear(1, []))
        self.assertEqual(sender.story(), [-8])
        for number in (0, 2, 3):
            self.assertEqual(KingHand(number, 4, 1, 1, None).say(1), [])

    def test_what_came_from_the_sender(self):
        for words, held in [({1: 7}, 7), ({1: None}, 0), ({}, 0), ({1: 0}, 0), ({1: -TOP}, -TOP)]:
            self.assertEqual(told(KingHand(0, 4, 1, 1, None), words), [held])

    def test_first_round_of_a_phase(self):
        # For four hands and the bound 1 a word is strong that stands there three times.
        for words, held in [
            ({1: 7, 2: 7, 3: 7}, 7), ({1: 7, 2: 7, 3: 6}, 7), ({1: 7, 2: 6, 3: 6}, None), ({1: 6, 2: 6, 3: 6}, 6),
            ({1: 7, 2: 7}, 7), ({1: 7}, None), ({}, None), ({1: None, 2: None, 3: None}, None),
            ({1: 7, 2: None, 3: 7}, 7), ({1: 0, 2: 0, 3: 0}, 0), ({1: 6, 2: 5, 3: 4}, None),
        ]:
            hand = KingHand(0, 4, 1, 1, None)
            self.assertEqual(told(hand, {1: 7}, words), [7, held], words)
            self.assertEqual(hand.say(3), [((0,), to, held) for to in (1, 2, 3)])

    def test_it_writes_what_it_holds(self):
        hand = KingHand(2, 4, 1, 1, None)
        told(hand, {1: 7})
        self.assertEqual(hand.say(2), [((2,), 0, 7), ((2,), 1, 7), ((2,), 3, 7)])
        told(hand, {})
        self.assertEqual(hand.say(3), [((2,), 0, None), ((2,), 1, None), ((2,), 3, None)])

    def test_the_same_when_asked_again(self):
        hand = KingHand(2, 4, 1, 1, None)
        told(hand, {1: 7})
        said = hand.say(2)
        same = list(said)
        said.clear()
        self.assertEqual(hand.say(2), same)

    def test_many_less_bound_below_1(self):
        for many, bound in [(2, 2), (2, 3), (1, 5), (3, 5)]:
            hand = KingHand(0, many, bound, 0, 4)
            # One word is enough then, and of several the first word of the tally.
            self.assertEqual(told(hand, {}, {})[1], 4)
            if many > 1:
                hand = KingHand(0, many, bound, 1, None)
                self.assertEqual(told(hand, {1: 4}, {1: 3})[1], 3)

    def test_second_round_of_a_phase(self):
        # For the bound and one, so two of the same, None left out.
        for words, held in [
            ({1: 7, 2: 7, 3: None}, 7), ({1: 7, 2: None, 3: None}, None), ({1: 7, 2: 6, 3: 5}, None),
            ({1: 6, 2: 6, 3: 7}, 6), ({}, None), ({1: None, 2: None, 3: None}, None), ({1: 0, 3: 0}, 0),
        ]:
            hand = KingHand(0, 4, 1, 1, None)
            self.assertEqual(told(hand, {1: 7}, {}, words)[2], held, words)
        # What it held itself counts too, and of as many the lesser word comes first.
        for words, held in [({1: 7}, 7), ({1: 6, 2: 6}, 6), ({1: 7, 2: 6, 3: 6}, 6), ({1: 7, 2: 8, 3: 8}, 7), ({}, None)]:
            hand = KingHand(0, 4, 1, 1, None)
            self.assertEqual(told(hand, {1: 7}, {1: 7, 2: 7}, words)[1:], [7, held], words)

    def test_the_king_of_each_phase(self):
        for many, bound in [(4, 1), (2, 5), (1, 3), (3, 4), (7, 2)]:
            for number in range(many):
                hand = KingHand(number, many, bound, 0, 5 if number == 0 else None)
                told(hand, {0: 5})
                for phase in range(bound + 1):
                    told(hand, {}, {})
                    said = hand.say(4 + 3 * phase)
                    if number == phase % many:
                        self.assertEqual([letter[:2] for letter in said], [
                            ((number,), to) for to in range(many) if to != number
                        ])
                    else:
                        self.assertEqual(said, [])
                    told(hand, {})

    def test_who_follows_the_king(self):
        # Four hands, the bound 1: a backing of three is enough.
        for second, held, behind in [
            ({1: 7, 2: 7, 3: 7}, 7, 7), ({1: 7, 2: 7}, 7, 7), ({1: 7}, 7, 9), ({1: 7, 2: 6}, 7, 9), ({}, None, 9),
            ({1: 6, 2: 6, 3: 6}, 6, 6), ({1: 6, 2: 6}, 6, 9), ({1: 6, 2: 6, 3: None}, 6, 9),
        ]:
            hand = KingHand(3, 4, 1, 1, None)
            story = told(hand, {1: 7}, {1: 7, 2: 7}, second, {0: 9})
            self.assertEqual(story[1:], [7, held, behind], second)

    def test_backing_of_the_second_round_of_the_same_phase(self):
        hand = KingHand(3, 4, 1, 1, None)
        story = told(hand, {1: 7}, {1: 7, 2: 7}, {1: 7, 2: 7}, {0: 9}, {0: 7, 1: 7}, {0: 7}, {1: 8})
        self.assertEqual(story, [7, 7, 7, 7, 7, 7, 8])

    def test_the_kings_word(self):
        for third, behind in [({0: 9}, 9), ({0: None}, 0), ({}, 0), ({0: 0}, 0), ({0: -TOP}, -TOP)]:
            hand = KingHand(3, 4, 1, 1, None)
            self.assertEqual(told(hand, {1: 7}, {}, {}, third)[1:], [None, None, behind], third)

    def test_the_king_itself(self):
        hand = KingHand(0, 4, 1, 1, None)
        self.assertEqual(told(hand, {1: 7}, {}, {}), [7, None, None])
        self.assertEqual(hand.say(4), [((0,), 1, None), ((0,), 2, None), ((0,), 3, None)])
        self.assertEqual(told(hand, {}), [7, None, None, 0])
        hand = KingHand(0, 4, 1, 1, None)
        self.assertEqual(told(hand, {1: 7}, {}, {1: 6, 2: 6}), [7, None, 6])
        self.assertEqual(hand.say(4), [((0,), 1, 6), ((0,), 2, 6), ((0,), 3, 6)])
        self.assertEqual(told(hand, {}), [7, None, 6, 6])

    def test_the_second_phase(self):
        hand = KingHand(3, 4, 1, 2, None)
        story = told(hand, {2: 7}, {}, {}, {0: 9}, {0: 9, 1: 9}, {0: 9}, {1: 4})
        self.assertEqual(story, [7, None, None, 9, 9, 9, 4])
        self.assertEqual(hand.ending(), 4)

    def test_backing_is_none_for_none(self):
        # In the first phase the backing is great; in the second one none is held, so the king is followed.
        hand = KingHand(3, 4, 1, 1, None)
        everybody = {0: 7, 1: 7, 2: 7}
        story = told(hand, {1: 7}, everybody, everybody, {0: 9}, {}, {}, {1: 5})
        self.assertEqual(story, [7, 7, 7, 7, None, None, 5])

    def test_ending(self):
        hand = KingHand(3, 4, 0, 1, None)
        told(hand, {1: 7}, {0: 7, 1: 7, 2: 7}, {0: 7, 1: 7, 2: 7}, {0: 9})
        self.assertEqual(hand.ending(), 7)
        sender = KingHand(1, 4, 0, 1, 7)
        everybody = {0: 3, 2: 3, 3: 3}
        self.assertEqual(told(sender, {}, everybody, everybody, {0: 3}), [7, None, 3, 3])
        self.assertEqual(sender.ending(), 7)

    def test_lists_are_the_askers_own(self):
        hand = KingHand(0, 4, 1, 1, None)
        letters = letters_of({1: 7})
        hand.hear(1, letters)
        self.assertEqual(letters, [((1,), 7)])
        letters.clear()
        story = hand.story()
        self.assertIs(type(story), list)
        story.append(3)
        self.assertEqual(hand.story(), [7])
        story.clear()
        self.assertEqual(hand.story(), [7])

    def test_two_hands_do_not_touch(self):
        one, other = KingHand(0, 4, 1, 1, None), KingHand(0, 4, 1, 1, None)
        told(one, {1: 7})
        self.assertEqual(other.story(), [])


class TestKings(unittest.TestCase):
    def test_one_hand(self):
        for bound in (0, 1, 5):
            play = Kings(Setting(1, bound), 0, 6)
            self.assertEqual((play.letters(), play.endings()), ([], [6]))
            self.assertEqual(len(play.story(0)), 1 + 3 * (bound + 1))

    def test_a_lie_for_a_letter_that_is_not_written(self):
        # Hand 2 is no king in the phases 0 and 1, and no sender.
        lies = [(1, (2,), 0, 9), (4, (2,), 0, 9), (7, (2,), 0, 9), (2, (0, 2), 1, 9), (2, (1,), 0, 9)]
        lying, plain = Kings(Setting(4, 1, [2], lies), 0, 5), Kings(Setting(4, 1, [2]), 0, 5)
        self.assertEqual(lying.letters(), plain.letters())

    def test_lying_hands_hold_what_comes(self):
        lies = [(turn, (2,), to, 9) for turn in range(1, 8) for to in (0, 1, 3)]
        play = Kings(Setting(4, 1, [2], lies), 0, 5)
        self.assertEqual(play.story(2), [5] * 7)
        self.assertEqual(play.endings(), [5, 5, 5, 5])

    def test_the_sender_ends_with_its_word_though_it_lies(self):
        lies = [(turn, (1,), to, 9) for turn in range(1, 8) for to in (0, 2, 3)]
        play = Kings(Setting(4, 1, [1], lies), 1, 5)
        self.assertEqual(play.endings(), [9, 5, 9, 9])
        self.assertEqual(play.story(1)[-1], 9)

    def test_the_last_lie_holds(self):
        lies = [(1, (0,), 1, 8), (1, (0,), 1, None), (1, (0,), 1, 9), (1, (0,), 2, 9), (1, (0,), 2, None)]
        play = Kings(Setting(3, 0, [0], lies), 0, 5)
        self.assertEqual(play.letters()[:2], [(1, (0,), 1, 9), (1, (0,), 2, None)])

    def test_plays_do_not_touch_one_another(self):
        setting = Setting(4, 1, [2], [(2, (2,), 1, 9)])
        first = Kings(setting, 0, 5)
        same = (first.letters(), first.endings(), first.story(1))
        Kings(setting, 3, 8)
        second = Kings(setting, 0, 5)
        self.assertEqual((second.letters(), second.endings(), second.story(1)), same)
        self.assertEqual((first.letters(), first.endings(), first.story(1)), same)
        self.assertEqual((setting.liars, setting.lies), ((2,), ((2, (2,), 1, 9),)))

    def test_lists_are_the_askers_own(self):
        play = Kings(Setting(4, 1), 0, 5)
        for ask in (play.letters, play.endings, lambda: play.story(1)):
            answer = ask()
            self.assertIs(type(answer), list)
            same = list(answer)
            answer.clear()
            answer.append(4)
            self.assertEqual(ask(), same)
        self.assertEqual(play.ending(1), 5)


class TestRefused(unittest.TestCase):
    def test_sender_and_word(self):
        for thing in [-1, 4, 10 ** 60] + no_wholes():
            assert_refused(self, NoHand, thing, Kings, Setting(4, 1), thing, 5)
            assert_refused(self, NoHand, thing, Kings, Setting(4, 1), thing, None)
        for thing in [10 ** 60, -10 ** 60] + no_wholes():
            assert_refused(self, NoWord, thing, Kings, Setting(4, 1), 0, thing)

    def test_hand_asked_for(self):
        play = Kings(Setting(4, 1), 0, 5)
        for thing in [-1, -4, 4, 10 ** 60] + no_wholes():
            assert_refused(self, NoHand, thing, play.story, thing)
            assert_refused(self, NoHand, thing, play.ending, thing)


class TestPromise(unittest.TestCase):
    def hold(self, setting, sender, word):
        play = Kings(setting, sender, word)
        ends = [play.ending(hand) for hand in setting.trues()]
        self.assertEqual(len(set(ends)), 1, (setting.liars, setting.lies, ends))
        if sender not in setting.liars:
            self.assertEqual(ends[0], word)

    def test_bound_0(self):
        for many in range(1, 8):
            for sender in range(many):
                self.hold(Setting(many, 0), sender, 6)

    def test_bound_1(self):
        for many in range(4, 8):
            for liars in some_hands(many, 1):
                for sender in {0, many - 1, *liars}:
                    letters = Kings(Setting(many, 1), sender, 5).letters()
                    for lies in many_kinds_of_lies(letters, liars, [0, 5, 9, None], 25, many):
                        self.hold(Setting(many, 1, liars, lies), sender, 5)

    def test_bound_2(self):
        for liars in some_hands(7, 2):
            for sender in {3, *liars}:
                letters = Kings(Setting(7, 2), sender, 5).letters()
                for lies in many_kinds_of_lies(letters, liars, [0, 5, 9, None], 4, sum(liars)):
                    self.hold(Setting(7, 2, liars, lies), sender, 5)

    def test_a_lying_sender_of_four_parts_the_others(self):
        for words in itertools.product((4, 6, None), repeat=3):
            lies = [(1, (0,), to, word) for to, word in zip((1, 2, 3), words)]
            letters = Kings(Setting(4, 1), 0, 5).letters()
            chance = random.Random(7)
            for time in range(30):
                more = lies_at_random([letter for letter in letters if letter[0] > 1], [0], [4, 6, None], chance)
                self.hold(Setting(4, 1, [0], lies + more), 0, 5)


if __name__ == "__main__":
    unittest.main()
