import itertools
import random
import unittest

from rows import lies_at_random, many_kinds_of_lies, some_hands
from things import NEAR, TOP, assert_refused, no_wholes

from traitorround.errors import NoCount, NoHand, NoWord
from traitorround.hands import Hand
from traitorround.oral import Oral, OralHand
from traitorround.paths import letters_due
from traitorround.settings import Setting
from traitorround.trees import grown, taken_at


class Reckoned:
    """The oral way reckoned anew, letter by letter, from the document's words and without a town."""

    def __init__(self, setting, sender, word, rounds):
        self.setting, self.sender, self.word, self.rounds = setting, sender, word, rounds

    def paths(self, length):
        others = [hand for hand in range(self.setting.many) if hand != self.sender]
        return [(self.sender,) + rest for rest in itertools.permutations(others, length - 1)]

    def written(self, path, to):
        word = self.word if len(path) == 1 else self.held(path[:-1], path[-1])
        if path[-1] in self.setting.liars:
            for lie in self.setting.lies:
                if lie[:3] == (len(path), path, to):
                    word = lie[3]
        return word

    def held(self, path, hand):
        word = self.written(path, hand)
        return 0 if word is None else word

    def letters(self):
        return sorted(
            [
                (length, path, to, self.written(path, to))
                for length in range(1, self.rounds + 1) for path in self.paths(length)
                for to in range(self.setting.many) if to not in path
            ],
            key=lambda letter: letter[:3],
        )

    def tree(self, hand):
        if hand == self.sender:
            return ((hand,), self.word, self.word, ())
        notes = {
            path: self.held(path, hand)
            for length in range(1, self.rounds + 1) for path in self.paths(length) if hand not in path
        }
        return grown(self.setting.many, self.rounds, hand, (self.sender,), notes)


def samples():
    """Settings with lies, a sender, a word and rounds (or None)."""
    chance = random.Random(4)
    for many in range(1, 8):
        for bound in (0, 1, 2) if many < 7 else (0, 1, 2, 3):
            for rounds in (None, 1, 3, many + 1) if many < 6 else (None, 2):
                sender = chance.randrange(many)
                liars = chance.sample(range(many), chance.randrange(many + 1))
                turns = bound + 1 if rounds is None else rounds
                plain = Reckoned(Setting(many, bound), sender, 5, turns).letters()
                lies = lies_at_random(plain, range(many), [0, 1, 5, None, -TOP], chance)
                # Lies in other rounds than those in which their letters are written.
                lies = lies + [(turn + 1, path, to, 77) for turn, path, to, word in plain[::5]]
                yield Setting(many, bound, liars, lies), sender, chance.choice((5, 0, -3, TOP)), rounds, turns


class TestOralHand(unittest.TestCase):
    def test_fields(self):
        hand = OralHand(2, 5, 3, 1, None)
        self.assertIsInstance(hand, Hand)
        self.assertEqual((hand.number, hand.many, hand.rounds), (2, 5, 3))

    def test_the_sender_writes_in_round_1_alone(self):
        sender = OralHand(2, 5, 3, 2, -8)
        self.assertEqual(sender.say(1), [((2,), 0, -8), ((2,), 1, -8), ((2,), 3, -8), ((2,), 4, -8)])
        for turn in (2, 3):
            self.assertEqual(sender.say(turn), [])
        self.assertEqual(OralHand(0, 1, 3, 0, 5).say(1), [])

    def test_the_others_do_not_write_in_round_1(self):
        for number in (0, 1, 3, 4):
            self.assertEqual(OralHand(number, 5, 3, 2, None).say(1), [])

    def test_letters_of_all_paths_rising(self):
        for many in range(2, 8):
            for number in range(1, many):
                for turn in range(2, min(many, 5) + 1):
                    hand = OralHand(number, many, 6, 0, None)
                    rest = [other for other in range(1, many) if other != number]
                    due = [
                        ((0,) + path + (number,), to, 0)
                        for path in itertools.permutations(rest, turn - 2) for to in rest if to not in path
                    ]
                    self.assertEqual(hand.say(turn), due)
                    self.assertEqual(due, sorted(due))

    def test_it_writes_what_it_holds(self):
        hand = OralHand(1, 4, 3, 0, None)
        self.assertIsNone(hand.hear(1, [((0,), 7)]))
        self.assertEqual(hand.say(2), [((0, 1), 2, 7), ((0, 1), 3, 7)])
        hand.hear(2, [((0, 2), -6), ((0, 3), None)])
        self.assertEqual(hand.say(3), [((0, 2, 1), 3, -6), ((0, 3, 1), 2, 0)])
        self.assertEqual(hand.tree(), grown(4, 3, 1, (0,), {(0,): 7, (0, 2): -6}))

    def test_the_same_when_asked_again(self):
        hand = OralHand(1, 4, 3, 0, None)
        hand.hear(1, [((0,), 7)])
        said = hand.say(2)
        same = list(said)
        said.clear()
        self.assertEqual(hand.say(2), same)
        self.assertEqual(hand.say(2), same)
        sender = OralHand(0, 3, 2, 0, 4)
        sender.say(1).clear()
        self.assertEqual(sender.say(1), [((0,), 1, 4), ((0,), 2, 4)])

    def test_the_word_that_came_first(self):
        for first, again, held in [(7, 8, 7), (None, 8, 0), (7, None, 7), (0, 8, 0), (None, None, 0)]:
            for same_list in (False, True):
                hand = OralHand(1, 4, 3, 0, None)
                if same_list:
                    hand.hear(1, [((0,), first), ((0,), again)])
                else:
                    hand.hear(1, [((0,), first)])
                    hand.hear(2, [((0,), again), ((0, 2), 5)])
                self.assertEqual(hand.say(2), [((0, 1), 2, held), ((0, 1), 3, held)])
                self.assertEqual(hand.tree()[1], held)

    def test_the_still_word_where_none_came(self):
        hand = OralHand(1, 4, 3, 0, None)
        hand.hear(1, [])
        self.assertEqual(hand.say(2), [((0, 1), 2, 0), ((0, 1), 3, 0)])
        hand.hear(2, [((0, 3), 4)])
        self.assertEqual(hand.say(3), [((0, 2, 1), 3, 0), ((0, 3, 1), 2, 4)])

    def test_what_it_is_told_may_be_changed_behind(self):
        hand = OralHand(1, 4, 2, 0, None)
        letters = [((0,), 7)]
        hand.hear(1, letters)
        self.assertEqual(letters, [((0,), 7)])
        letters[0] = ((0,), 8)
        letters.append(((0, 2), 8))
        self.assertEqual(hand.say(2), [((0, 1), 2, 7), ((0, 1), 3, 7)])
        letters.clear()
        self.assertEqual(hand.tree(), ((0,), 7, 0, (((0, 2), 0, 0, ()), ((0, 3), 0, 0, ()))))

    def test_tree_and_ending(self):
        hand = OralHand(1, 4, 2, 0, None)
        hand.hear(1, [((0,), 7)])
        hand.hear(2, [((0, 2), 7), ((0, 3), 8)])
        self.assertEqual(hand.tree(), ((0,), 7, 7, (((0, 2), 7, 7, ()), ((0, 3), 8, 8, ()))))
        self.assertEqual(hand.ending(), 7)
        hand = OralHand(1, 4, 1, 0, None)
        hand.hear(1, [((0,), TOP)])
        self.assertEqual(hand.tree(), ((0,), TOP, TOP, ()))
        self.assertEqual(hand.ending(), TOP)

    def test_tree_of_the_sender(self):
        for word in (5, 0, -TOP):
            sender = OralHand(2, 4, 2, 2, word)
            sender.hear(1, [])
            sender.hear(2, [])
            self.assertEqual(sender.tree(), ((2,), word, word, ()))
            self.assertEqual(sender.ending(), word)

    def test_two_hands_do_not_touch(self):
        one, other = OralHand(1, 4, 2, 0, None), OralHand(1, 4, 2, 0, None)
        one.hear(1, [((0,), 7)])
        self.assertEqual(other.say(2), [((0, 1), 2, 0), ((0, 1), 3, 0)])


class TestOral(unittest.TestCase):
    def test_reckoned_anew(self):
        for setting, sender, word, rounds, turns in samples():
            play = Oral(setting, sender, word) if rounds is None else Oral(setting, sender, word, rounds)
            anew = Reckoned(setting, sender, word, turns)
            self.assertEqual(play.letters(), anew.letters())
            trees = [anew.tree(hand) for hand in range(setting.many)]
            self.assertEqual([play.tree(hand) for hand in range(setting.many)], trees)
            self.assertEqual([play.ending(hand) for hand in range(setting.many)], [tree[2] for tree in trees])
            self.assertEqual(play.endings(), [tree[2] for tree in trees])
            self.assertEqual(play.ending(sender), word)

    def test_number_of_letters(self):
        for many in range(1, 8):
            for rounds in range(1, 9 if many < 7 else 6):
                letters = Oral(Setting(many, 0, [0]), many - 1, 5, rounds).letters()
                self.assertEqual(len(letters), letters_due(many, rounds))
                self.assertEqual(len({letter[:3] for letter in letters}), len(letters))
        self.assertEqual(len(Oral(Setting(7, 2), 0, 1).letters()), 6 + 30 + 120)

    def test_rounds(self):
        for bound in range(4):
            self.assertEqual(Oral(Setting(5, bound), 0, 1).letters()[-1][0], bound + 1)
            self.assertEqual(Oral(Setting(5, bound), 0, 1, None).letters()[-1][0], bound + 1)
            for rounds in range(1, 5):
                self.assertEqual(Oral(Setting(5, bound), 0, 1, rounds).letters()[-1][0], rounds)
        self.assertEqual(Oral(Setting(3, 5), 0, 1).letters()[-1][0], 2)

    def test_one_hand(self):
        for rounds in (None, 1, 8):
            play = Oral(Setting(1, 0), 0, -7, rounds)
            self.assertEqual((play.letters(), play.endings()), ([], [-7]))
            self.assertEqual(play.tree(0), ((0,), -7, -7, ()))

    def test_two_hands(self):
        play = Oral(Setting(2, 1, [1], [(1, (0,), 1, 9)]), 0, 4)
        self.assertEqual((play.letters(), play.endings()), ([(1, (0,), 1, 4)], [4, 4]))
        play = Oral(Setting(2, 1, [0], [(1, (0,), 1, 9)]), 0, 4)
        self.assertEqual((play.letters(), play.endings()), ([(1, (0,), 1, 9)], [4, 9]))
        play = Oral(Setting(2, 1, [0], [(1, (0,), 1, None)]), 0, 4)
        self.assertEqual((play.letters(), play.endings()), ([(1, (0,), 1, None)], [4, 0]))

    def test_written_out(self):
        play = Oral(Setting(4, 1, [2], [(2, (0, 2), 1, 9), (2, (0, 2), 3, None)]), 0, 5)
        self.assertEqual(play.letters(), [
            (1, (0,), 1, 5), (1, (0,), 2, 5), (1, (0,), 3, 5), (2, (0, 1), 2, 5), (2, (0, 1), 3, 5),
            (2, (0, 2), 1, 9), (2, (0, 2), 3, None), (2, (0, 3), 1, 5), (2, (0, 3), 2, 5),
        ])
        self.assertEqual(play.tree(1), ((0,), 5, 5, (((0, 2), 9, 9, ()), ((0, 3), 5, 5, ()))))
        self.assertEqual(play.tree(3), ((0,), 5, 5, (((0, 1), 5, 5, ()), ((0, 2), 0, 0, ()))))
        self.assertEqual(play.endings(), [5, 5, 5, 5])

    def test_the_last_lie_holds(self):
        lies = [(1, (0,), 1, 8), (1, (0,), 1, None), (1, (0,), 1, 9)]
        self.assertEqual(Oral(Setting(3, 0, [0], lies), 0, 5).letters(), [(1, (0,), 1, 9), (1, (0,), 2, 5)])

    def test_lies_of_true_hands_and_in_other_rounds_do_nothing(self):
        lies = [(1, (0,), 1, 9), (2, (0, 1), 2, 9), (2, (0,), 1, 9), (1, (0, 2), 1, 9), (3, (0, 2), 1, 9),
                (2, (1, 2), 0, 9), (2, (0, 1, 2), 3, 9)]
        self.assertEqual(
            Oral(Setting(4, 1, [2], lies), 0, 5).letters(), Oral(Setting(4, 1), 0, 5).letters(),
        )

    def test_lying_hands_hold_what_comes(self):
        play = Oral(Setting(4, 1, [2], [(2, (0, 2), 1, 9)]), 0, 5)
        self.assertEqual(play.tree(2), ((0,), 5, 5, (((0, 1), 5, 5, ()), ((0, 3), 5, 5, ()))))

    def test_the_sender_ends_with_its_word_though_it_lies(self):
        for word in (5, 0, NEAR):
            lies = [(1, (1,), to, 9) for to in (0, 2, 3)]
            play = Oral(Setting(4, 1, [1], lies), 1, word)
            self.assertEqual(play.endings(), [9, word, 9, 9])
            self.assertEqual(play.tree(1), ((1,), word, word, ()))

    def test_plays_do_not_touch_one_another(self):
        setting = Setting(4, 1, [2], [(2, (0, 2), 1, 9)])
        fields = (setting.many, setting.bound, setting.liars, setting.lies)
        first = Oral(setting, 0, 5)
        told = (first.letters(), first.endings(), first.tree(1))
        Oral(setting, 3, 8, 3)
        second = Oral(setting, 0, 5)
        self.assertEqual((second.letters(), second.endings(), second.tree(1)), told)
        self.assertEqual((first.letters(), first.endings(), first.tree(1)), told)
        self.assertEqual((setting.many, setting.bound, setting.liars, setting.lies), fields)

    def test_lists_are_the_askers_own(self):
        play = Oral(Setting(4, 1), 0, 5)
        for ask in (play.letters, play.endings):
            told = ask()
            self.assertIs(type(told), list)
            same = list(told)
            told.reverse()
            told.clear()
            self.assertEqual(ask(), same)
            self.assertEqual((play.ending(1), play.tree(1)[2]), (5, 5))


class TestRefused(unittest.TestCase):
    def test_sender(self):
        for thing in [-1, 4, 5, 10 ** 60] + no_wholes():
            assert_refused(self, NoHand, thing, Oral, Setting(4, 1), thing, 5)
            assert_refused(self, NoHand, thing, Oral, Setting(4, 1), thing, 5, 2)

    def test_word(self):
        for thing in [10 ** 60, -10 ** 60] + no_wholes():
            assert_refused(self, NoWord, thing, Oral, Setting(4, 1), 0, thing)
            assert_refused(self, NoWord, thing, Oral, Setting(4, 1), 3, thing, 2)

    def test_rounds(self):
        for thing in [0, -1, 9, 30, 10 ** 60] + [thing for thing in no_wholes() if thing is not None]:
            assert_refused(self, NoCount, thing, Oral, Setting(4, 1), 0, 5, thing)
        for thing in range(1, 9):
            Oral(Setting(4, 1), 0, 5, thing)

    def test_order(self):
        assert_refused(self, NoHand, 4, Oral, Setting(4, 1), 4, None, 0)
        assert_refused(self, NoHand, None, Oral, Setting(4, 1), None, 10 ** 60)
        assert_refused(self, NoWord, None, Oral, Setting(4, 1), 3, None, 0)
        assert_refused(self, NoCount, 0, Oral, Setting(4, 1), 3, 0, 0)

    def test_hand_asked_for(self):
        play = Oral(Setting(4, 1), 0, 5)
        for thing in [-1, -4, 4, 5, 10 ** 60] + no_wholes():
            assert_refused(self, NoHand, thing, play.tree, thing)
            assert_refused(self, NoHand, thing, play.ending, thing)
        self.assertEqual(play.endings(), [5, 5, 5, 5])


class TestPromise(unittest.TestCase):
    def hold(self, setting, sender, word):
        play = Oral(setting, sender, word)
        ends = [play.ending(hand) for hand in setting.trues()]
        self.assertEqual(len(set(ends)), 1, (setting.liars, setting.lies, ends))
        if sender not in setting.liars:
            self.assertEqual(ends[0], word, (setting.liars, setting.lies))

    def test_bound_0(self):
        for many in range(1, 8):
            for sender in range(many):
                self.hold(Setting(many, 0), sender, 6)

    def test_all_lies_of_one_lying_hand_of_four(self):
        for liar, sender in itertools.product(range(4), range(4)):
            letters = Oral(Setting(4, 1), sender, 1).letters()
            places = [letter[:3] for letter in letters if letter[1][-1] == liar]
            for words in itertools.product((0, 1, 2, None), repeat=len(places)):
                lies = [place + (word,) for place, word in zip(places, words)]
                self.hold(Setting(4, 1, [liar], lies), sender, 1)

    def test_bound_1(self):
        for many in range(4, 8):
            for liars in some_hands(many, 1):
                for sender in {0, many - 1, *liars}:
                    letters = Oral(Setting(many, 1), sender, 5).letters()
                    for lies in many_kinds_of_lies(letters, liars, [0, 5, 9, None, TOP], 12, many):
                        self.hold(Setting(many, 1, liars, lies), sender, 5)

    def test_bound_2(self):
        for liars in some_hands(7, 2):
            for sender in {3, *liars}:
                letters = Oral(Setting(7, 2), sender, 5).letters()
                for lies in many_kinds_of_lies(letters, liars, [0, 5, 9, None], 4, sum(liars)):
                    self.hold(Setting(7, 2, liars, lies), sender, 5)

    def test_fewer_hands_than_promised_may_end_unlike(self):
        lies = [(1, (0,), 1, 4), (1, (0,), 2, 6)]
        play = Oral(Setting(3, 1, [0], lies), 0, 5)
        self.assertEqual(play.endings()[1:], [4, 4])
        lies = [(2, (0, 2), 1, 3)]
        self.assertEqual(Oral(Setting(3, 1, [2], lies), 0, 5).endings()[:2], [5, 3])

    def test_a_path_that_ends_with_a_true_hand(self):
        for many, rounds, most_lying in [(4, 2, 1), (5, 3, 1), (6, 4, 1), (7, 3, 2), (7, 5, 1), (6, 2, 2), (3, 1, 1)]:
            for liars in list(some_hands(many, most_lying))[::2]:
                self.assertGreater(many, rounds - 1 + 2 * len(liars))
                for sender in {1, *liars}:
                    letters = Oral(Setting(many, 1), sender, 5, rounds).letters()
                    for lies in list(many_kinds_of_lies(letters, liars, [0, 5, 9, None], 2, many))[4::3]:
                        self.paths_hold(Setting(many, 1, liars, lies), sender, rounds)

    def paths_hold(self, setting, sender, rounds):
        play = Oral(setting, sender, 5, rounds)
        trees = [play.tree(hand) for hand in range(setting.many)]
        for turn, path, to, word in play.letters():
            if path[-1] not in setting.liars and to not in setting.liars:
                # A true hand writes what it holds for the path without itself.
                self.assertEqual(taken_at(trees[to], path), word, (setting.liars, setting.lies, path, to))


if __name__ == "__main__":
    unittest.main()
