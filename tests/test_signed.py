import itertools
import random
import unittest

from rows import some_hands
from things import TOP, assert_refused, no_wholes

from traitorround.errors import NoCount, NoHand, NoWord
from traitorround.settings import Setting
from traitorround.signed import Signed


class Reckoned:
    """The signed way played anew from the document's words, with plain sets and lists."""

    def __init__(self, setting, sender, word, rounds):
        self.stamps, self.letters = set(), []
        self.kept = {hand: [] for hand in range(setting.many)}
        self.kept[sender] = [(word, ())]
        for turn in range(1, rounds + 1):
            round_letters = set()
            for hand in set(range(setting.many)) - set(setting.liars):
                for kept_word, path in self.kept[hand]:
                    if len(path) + 1 == turn:
                        self.stamps.add((hand, path, kept_word))
                        for to in set(range(setting.many)) - set(path) - {hand}:
                            round_letters.add((path + (hand,), to, kept_word))
            for lie_turn, path, to, lie_word in setting.lies:
                if lie_turn == turn and lie_word is not None:
                    round_letters.add((path, to, lie_word))
                    for place in range(len(path)):
                        if path[place] in setting.liars:
                            self.stamps.add((path[place], path[:place], lie_word))
            for path, to, told in sorted(round_letters):
                good = all((path[place], path[:place], told) in self.stamps for place in range(len(path)))
                self.letters.append((turn, path, to, told, good))
                there = [row[0] for row in self.kept[to]]
                if good and len(path) == turn and path[0] == sender and told not in there and len(there) < 2:
                    self.kept[to].append((told, path))


def lies_by_chains(many, liars, sender, rounds, words, chance, number):
    """Lies whose paths are chains of lying hands, chains of true ones that lying ones go on with, and others."""
    lies = []
    # One hand alone has nobody to write to.
    for time in range(number if many > 1 else 0):
        length = chance.randrange(1, min(many, rounds + 2))
        others = [hand for hand in range(many) if hand != sender]
        chance.shuffle(others)
        if chance.randrange(3) and liars:
            # Lying hands first: such a chain may be good.
            others.sort(key=lambda hand: hand not in liars)
            others = others[:chance.randrange(1, len(others) + 1)]
            chance.shuffle(others)
        path = ([sender] + others)[:length]
        if chance.randrange(9) == 0:
            chance.shuffle(path)
        readers = [hand for hand in range(many) if hand not in path]
        if readers:
            turn = chance.choice((len(path), len(path), len(path), chance.randrange(1, rounds + 3)))
            lies.append((turn, tuple(path), chance.choice(readers), chance.choice(words)))
    return lies + lies[:number // 5]


def samples(often):
    chance = random.Random(8)
    for many in range(1, 8):
        for bound in range(6):
            for time in range(often):
                sender = chance.randrange(many)
                liars = sorted(chance.sample(range(many), chance.randrange(many + 1)))
                rounds = chance.choice((None, 1, 2, 3, 4, 8))
                turns = bound + 1 if rounds is None else rounds
                lies = lies_by_chains(many, liars, sender, turns, [0, 1, 5, 9, None, -TOP], chance, 4 * many)
                yield Setting(many, bound, liars, lies), sender, chance.choice((5, 0, 9)), rounds, turns


class TestReckonedAnew(unittest.TestCase):
    def test_letters_kept_stamps_and_endings(self):
        good_lies = 0
        for setting, sender, word, rounds, turns in samples(8):
            play = Signed(setting, sender, word) if rounds is None else Signed(setting, sender, word, rounds)
            anew = Reckoned(setting, sender, word, turns)
            self.assertEqual(play.letters(), anew.letters)
            self.assertEqual(play.stamps(), sorted(anew.stamps))
            hands = range(setting.many)
            self.assertEqual([play.kept(hand) for hand in hands], [anew.kept[hand] for hand in hands])
            ends = [kept[0][0] if len(kept) == 1 else 0 for kept in anew.kept.values()]
            self.assertEqual([play.ending(hand) for hand in hands], ends)
            self.assertEqual(play.endings(), ends)
            self.assertEqual(play.ending(sender), word)
            lies = [lie[:4] for lie in setting.lies]
            good_lies += sum(letter[4] and letter[:4] in lies for letter in play.letters())
        # The samples are to hold many lies that are good, else they'd show little.
        self.assertGreater(good_lies, 200)


class TestLetters(unittest.TestCase):
    def test_true_hands(self):
        play = Signed(Setting(3, 1), 1, 5)
        self.assertEqual(play.letters(), [
            (1, (1,), 0, 5, True), (1, (1,), 2, 5, True), (2, (1, 0), 2, 5, True), (2, (1, 2), 0, 5, True),
        ])
        self.assertEqual(play.stamps(), [(0, (1,), 5), (1, (), 5), (2, (1,), 5)])
        self.assertEqual([play.kept(hand) for hand in range(3)], [[(5, (1,))], [(5, ())], [(5, (1,))]])
        self.assertEqual(play.endings(), [5, 5, 5])

    def test_one_hand(self):
        play = Signed(Setting(1, 0), 0, 5, 8)
        self.assertEqual((play.letters(), play.endings(), play.kept(0)), ([], [5], [(5, ())]))
        self.assertEqual(play.stamps(), [(0, (), 5)])
        play = Signed(Setting(1, 0, [0]), 0, 5)
        self.assertEqual((play.letters(), play.endings(), play.stamps()), ([], [5], []))

    def test_kinds(self):
        for letter in Signed(Setting(3, 1, [1], [(1, (0,), 2, 4)]), 1, 5).letters():
            self.assertIs(type(letter), tuple)
            self.assertEqual([type(part) for part in letter], [int, tuple, int, int, bool])

    def test_lying_hands_write_no_such_letters(self):
        play = Signed(Setting(3, 1, [1]), 1, 5)
        self.assertEqual((play.letters(), play.stamps()), ([], []))
        self.assertEqual(play.endings(), [0, 5, 0])
        play = Signed(Setting(3, 1, [0]), 1, 5)
        self.assertEqual(play.letters(), [
            (1, (1,), 0, 5, True), (1, (1,), 2, 5, True), (2, (1, 2), 0, 5, True),
        ])
        # It keeps what came though it doesn't write it on.
        self.assertEqual(play.kept(0), [(5, (1,))])

    def test_the_lying_sender_writes_its_lies_alone(self):
        play = Signed(Setting(3, 1, [1], [(1, (1,), 0, 7), (1, (1,), 2, None)]), 1, 5)
        self.assertEqual(play.letters(), [(1, (1,), 0, 7, True), (2, (1, 0), 2, 7, True)])
        self.assertEqual(play.endings(), [7, 5, 7])
        self.assertEqual(play.stamps(), [(0, (1,), 7), (1, (), 7)])

    def test_a_lie_with_none_is_not_written(self):
        lies = [(1, (1,), 0, None), (2, (1, 2), 0, None)]
        self.assertEqual(
            Signed(Setting(4, 1, [2], lies), 1, 5).letters(), Signed(Setting(4, 1, [2]), 1, 5).letters(),
        )

    def test_none_does_not_take_back_another_lie(self):
        lies = [(1, (1,), 0, 7), (1, (1,), 0, None)]
        self.assertIn((1, (1,), 0, 7, True), Signed(Setting(4, 1, [1], lies), 1, 5).letters())

    def test_a_lie_of_true_hands_alone(self):
        play = Signed(Setting(4, 1, [3], [(1, (1,), 0, 7), (2, (1, 2), 0, 7), (1, (2, 0), 1, 8)]), 1, 5)
        letters = play.letters()
        for letter in [(1, (1,), 0, 7, False), (2, (1, 2), 0, 7, False), (1, (2, 0), 1, 8, False)]:
            self.assertIn(letter, letters)
        self.assertEqual([stamp for stamp in play.stamps() if stamp[2] != 5], [])
        self.assertEqual(play.endings(), [5, 5, 5, 5])

    def test_lies_without_lying_hands(self):
        play = Signed(Setting(3, 1, [], [(1, (1,), 0, 7)]), 1, 5)
        self.assertEqual(play.letters()[:3], [(1, (1,), 0, 5, True), (1, (1,), 0, 7, False), (1, (1,), 2, 5, True)])

    def test_each_letter_once(self):
        lies = [(1, (1,), 0, 5), (1, (1,), 0, 5), (2, (1, 3), 0, 6), (2, (1, 3), 0, 6), (2, (1, 3), 0, 6)]
        letters = Signed(Setting(4, 1, [3], lies), 1, 5).letters()
        self.assertEqual(len(letters), len(set(letters)))
        self.assertEqual(letters.count((1, (1,), 0, 5, True)), 1)
        self.assertEqual(letters.count((2, (1, 3), 0, 6, False)), 1)
        plain = Signed(Setting(4, 1, [3]), 1, 5).letters()
        self.assertEqual(len(letters), len(plain) + 1)

    def test_several_lies_with_one_path_to_one_hand(self):
        lies = [(1, (1,), 0, 9), (1, (1,), 0, -7), (1, (1,), 0, 8), (1, (1,), 0, TOP)]
        play = Signed(Setting(3, 0, [1], lies), 1, 5)
        self.assertEqual(play.letters(), [
            (1, (1,), 0, -7, True), (1, (1,), 0, 8, True), (1, (1,), 0, 9, True), (1, (1,), 0, TOP, True),
        ])
        self.assertEqual(play.kept(0), [(-7, (1,)), (8, (1,))])
        self.assertEqual(play.endings(), [0, 5, 0])

    def test_order(self):
        lies = [(1, (3, 0), 1, 7), (1, (3,), 2, 7), (1, (0,), 2, 7), (1, (3,), 1, 9), (1, (3,), 1, 8), (2, (0,), 1, 1)]
        letters = Signed(Setting(4, 1, [3], lies), 1, 5).letters()
        self.assertEqual([letter[:4] for letter in letters if letter[0] == 1], [
            (1, (0,), 2, 7), (1, (1,), 0, 5), (1, (1,), 2, 5), (1, (1,), 3, 5), (1, (3,), 1, 8), (1, (3,), 1, 9),
            (1, (3,), 2, 7), (1, (3, 0), 1, 7),
        ])
        self.assertEqual(letters, sorted(letters, key=lambda letter: letter[:4]))

    def test_a_lie_of_a_round_that_is_not_played(self):
        lies = [(3, (1,), 0, 7), (30, (1, 3), 0, 7), (3, (3, 1), 0, 8)]
        play, plain = Signed(Setting(4, 1, [1, 3], lies), 1, 5), Signed(Setting(4, 1, [1, 3]), 1, 5)
        self.assertEqual((play.letters(), play.stamps()), (plain.letters(), plain.stamps()))
        self.assertEqual(play.stamps(), [])
        self.assertEqual(len(Signed(Setting(4, 1, [1, 3], lies), 1, 5, 3).letters()), 2)

    def test_rounds(self):
        for bound in range(3):
            for rounds in (None, 1, 2, 3):
                turns = bound + 1 if rounds is None else rounds
                lies = [(turn, (0,), 1, turn) for turn in range(1, 9)]
                letters = Signed(Setting(4, bound, [], lies), 0, 9, rounds).letters()
                self.assertEqual(letters[-1][0], turns)
        # A word once kept is written in the round behind it alone.
        self.assertEqual({letter[0] for letter in Signed(Setting(4, 0), 0, 9, 8).letters()}, {1, 2})


class TestGood(unittest.TestCase):
    def test_lying_hands_lend_their_stamps(self):
        # Both hands of the path lie: the chain is good though hand 0 wrote nothing in round 1.
        play = Signed(Setting(4, 1, [0, 2], [(2, (0, 2), 1, 7)]), 0, 5)
        self.assertEqual(play.letters(), [(2, (0, 2), 1, 7, True)])
        self.assertEqual(play.stamps(), [(0, (), 7), (2, (0,), 7)])
        self.assertEqual(play.endings(), [5, 7, 0, 0])

    def test_true_hands_do_not_stamp_by_a_lie(self):
        play = Signed(Setting(4, 1, [2], [(2, (0, 2), 1, 7)]), 0, 5)
        self.assertIn((2, (0, 2), 1, 7, False), play.letters())
        self.assertIn((2, (0,), 7), play.stamps())
        self.assertNotIn((0, (), 7), play.stamps())
        self.assertEqual(play.endings(), [5, 5, 5, 5])

    def test_a_stamp_of_an_earlier_round_helps(self):
        # Hand 0 lies to hand 1 in round 1; so hand 1, a true one, makes its stamp in round 2.
        lies = [(1, (0,), 1, 7), (3, (0, 1, 2), 3, 7)]
        play = Signed(Setting(5, 2, [0, 2], lies), 0, 5)
        self.assertIn((3, (0, 1, 2), 3, 7, True), play.letters())
        # A round earlier the stamp of hand 1 is made too, since all stamps of the round count.
        play = Signed(Setting(5, 2, [0, 2], [(1, (0,), 1, 7), (2, (0, 1, 2), 3, 7)]), 0, 5)
        self.assertIn((2, (0, 1, 2), 3, 7, True), play.letters())
        play = Signed(Setting(5, 2, [0, 2], [(1, (0,), 1, 7), (1, (0, 1, 2), 3, 7)]), 0, 5)
        self.assertIn((1, (0, 1, 2), 3, 7, False), play.letters())

    def test_behind_all_stamps_of_the_round(self):
        # The sender, a true hand, makes its stamp in the very round in which the lie is told.
        play = Signed(Setting(4, 1, [2], [(1, (0, 2), 1, 5)]), 0, 5)
        self.assertIn((1, (0, 2), 1, 5, True), play.letters())
        # So does the true hand 3, whom hand 0 then signs behind.
        lies = [(1, (1,), 3, 7), (2, (1, 3, 0), 2, 7)]
        play = Signed(Setting(4, 1, [0, 1], lies), 1, 5)
        self.assertEqual([letter for letter in play.letters() if letter[0] == 2], [
            (2, (1, 3), 0, 7, True), (2, (1, 3), 2, 7, True), (2, (1, 3, 0), 2, 7, True),
        ])

    def test_the_stamp_of_another_word(self):
        play = Signed(Setting(4, 1, [2], [(2, (0, 2), 1, 5), (2, (0, 2), 3, 6)]), 0, 5)
        self.assertIn((2, (0, 2), 1, 5, True), play.letters())
        self.assertIn((2, (0, 2), 3, 6, False), play.letters())
        self.assertEqual(play.kept(1), [(5, (0,))])

    def test_a_good_letter_that_is_not_kept(self):
        for lie in [
            (2, (0,), 1, 7),        # fewer hands than the round's number
            (1, (0, 2), 1, 7),      # more hands
            (2, (2, 0), 1, 7),      # another begin
            (1, (2,), 1, 7),
        ]:
            play = Signed(Setting(4, 1, [0, 2], [lie]), 0, 5)
            self.assertEqual(play.letters(), [lie + (True,)])
            self.assertEqual(play.kept(1), [], lie)
            self.assertEqual(play.ending(1), 0)

    def test_a_letter_that_is_not_good_is_not_kept(self):
        play = Signed(Setting(4, 1, [], [(1, (0,), 1, 4)]), 0, 5)
        self.assertEqual(play.kept(1), [(5, (0,))])


class TestKept(unittest.TestCase):
    def test_the_senders_word_from_the_start(self):
        for liars in ([], [2]):
            self.assertEqual(Signed(Setting(4, 1, liars), 2, 5).kept(2), [(5, ())])

    def test_in_the_order_in_which_they_came(self):
        lies = [(1, (0,), 1, 9), (2, (0, 2), 1, 4)]
        play = Signed(Setting(4, 1, [0, 2], lies), 0, 5)
        self.assertEqual(play.kept(1), [(9, (0,)), (4, (0, 2))])
        self.assertEqual(play.ending(1), 0)

    def test_no_more_than_two(self):
        lies = [(1, (0,), 1, 9), (2, (0, 2), 1, 8), (2, (0, 2), 1, 7), (2, (0, 3), 1, 6)]
        play = Signed(Setting(5, 1, [0, 2, 3], lies), 0, 5)
        self.assertEqual(play.kept(1), [(9, (0,)), (7, (0, 2))])
        self.assertEqual(play.kept(4), [(9, (0, 1))])

    def test_a_word_once(self):
        lies = [(1, (0,), 1, 9), (2, (0, 2), 1, 9), (2, (0, 3), 1, 8)]
        play = Signed(Setting(4, 1, [0, 2, 3], lies), 0, 5)
        self.assertEqual(play.kept(1), [(9, (0,)), (8, (0, 3))])

    def test_each_word_kept_is_written_on(self):
        lies = [(1, (0,), 1, 9), (1, (0,), 1, 8)]
        play = Signed(Setting(4, 1, [0], lies), 0, 5)
        self.assertEqual([letter for letter in play.letters() if letter[0] == 2], [
            (2, (0, 1), 2, 8, True), (2, (0, 1), 2, 9, True), (2, (0, 1), 3, 8, True), (2, (0, 1), 3, 9, True),
        ])
        self.assertEqual(play.kept(2), [(8, (0, 1)), (9, (0, 1))])

    def test_lying_hands_keep_too(self):
        play = Signed(Setting(4, 1, [0, 2], [(1, (0,), 2, 9)]), 0, 5)
        self.assertEqual(play.kept(2), [(9, (0,))])
        self.assertEqual(play.ending(2), 9)

    def test_endings(self):
        lies = [(1, (0,), 1, 9), (1, (0,), 2, 9), (1, (0,), 2, 7), (1, (0,), 4, 0)]
        play = Signed(Setting(5, 0, [0], lies), 0, 5)
        self.assertEqual(play.endings(), [5, 9, 0, 0, 0])
        self.assertEqual([len(play.kept(hand)) for hand in range(5)], [1, 1, 2, 0, 1])


class TestOwn(unittest.TestCase):
    def test_lists_are_the_askers_own(self):
        play = Signed(Setting(4, 1, [2], [(2, (0, 2), 1, 7)]), 0, 5)
        for ask in (play.letters, play.stamps, play.endings, lambda: play.kept(1), lambda: play.kept(0)):
            told = ask()
            self.assertIs(type(told), list)
            same = list(told)
            told.clear()
            told.append(1)
            self.assertEqual(ask(), same)
            self.assertEqual(play.endings(), [5, 5, 5, 5])

    def test_plays_do_not_touch_one_another(self):
        setting = Setting(4, 1, [2], [(2, (0, 2), 1, 7)])
        first = Signed(setting, 0, 5)
        told = (first.letters(), first.stamps(), first.endings())
        Signed(setting, 2, 7)
        Signed(setting, 0, 7)
        second = Signed(setting, 0, 5)
        self.assertEqual((second.letters(), second.stamps(), second.endings()), told)
        self.assertEqual((first.letters(), first.stamps(), first.endings()), told)
        self.assertEqual((setting.liars, setting.lies), ((2,), ((2, (0, 2), 1, 7),)))


class TestRefused(unittest.TestCase):
    def test_sender(self):
        for thing in [-1, 4, 10 ** 60] + no_wholes():
            assert_refused(self, NoHand, thing, Signed, Setting(4, 1), thing, 5)

    def test_word(self):
        for thing in [10 ** 60, -10 ** 60] + no_wholes():
            assert_refused(self, NoWord, thing, Signed, Setting(4, 1), 0, thing)

    def test_rounds(self):
        for thing in [0, -1, 9, 10 ** 60] + [thing for thing in no_wholes() if thing is not None]:
            assert_refused(self, NoCount, thing, Signed, Setting(4, 1), 0, 5, thing)
        for thing in range(1, 9):
            Signed(Setting(4, 1), 0, 5, thing)

    def test_order(self):
        assert_refused(self, NoHand, 4, Signed, Setting(4, 1), 4, None, 0)
        assert_refused(self, NoWord, None, Signed, Setting(4, 1), 3, None, 0)
        assert_refused(self, NoCount, 0, Signed, Setting(4, 1), 3, 0, 0)

    def test_hand_asked_for(self):
        play = Signed(Setting(4, 1), 0, 5)
        for thing in [-1, -4, 4, 10 ** 60] + no_wholes():
            assert_refused(self, NoHand, thing, play.kept, thing)
            assert_refused(self, NoHand, thing, play.ending, thing)


class TestPromise(unittest.TestCase):
    def hold(self, setting, sender, word):
        play = Signed(setting, sender, word)
        trues = setting.trues()
        ends = [play.ending(hand) for hand in trues]
        self.assertLessEqual(len(set(ends)), 1, (setting.liars, setting.lies, ends))
        if sender in trues:
            self.assertEqual(set(ends), {word})
        for hand in trues:
            for kept_word, path in play.kept(hand):
                for place, signer in enumerate(path):
                    if signer in trues:
                        self.assertIn((kept_word, path[:place]), play.kept(signer))

    def test_any_number_of_hands_and_any_bound(self):
        chance = random.Random(3)
        for many in range(1, 8):
            for bound in range(6):
                for liars in some_hands(many, min(bound, many)):
                    sender = chance.choice(liars + [0]) if chance.randrange(4) else chance.randrange(many)
                    for number in (3, 12, 30):
                        lies = lies_by_chains(many, liars, sender, bound + 1, [0, 5, 9, 7, None], chance, number)
                        self.hold(Setting(many, bound, liars, lies), sender, 5)

    def test_lies_in_the_last_round(self):
        for many, bound in [(4, 2), (5, 3), (7, 5)]:
            for liars in itertools.permutations(range(many), bound):
                if liars[0] > 1:
                    continue
                for to in range(many):
                    if to not in liars:
                        lies = [(bound, liars, to, 7), (1, liars[:1], to, 6), (bound + 1, liars, to, 8)]
                        self.hold(Setting(many, bound, list(liars), lies[:1]), liars[0], 5)
                        self.hold(Setting(many, bound, list(liars), lies), liars[0], 5)


if __name__ == "__main__":
    unittest.main()
