import copy
import unittest

from things import TOP

from traitorround.hands import Crasher, Hand, Liar, Scribe

LINES = [
    (1, (0,), 2, 5), (2, (0, 3), 1, 6), (1, (0,), 1, None), (1, (0,), 3, -7), (2, (3,), 1, 0), (4, (0,), 1, TOP),
    (1, (2,), 1, 5),
]


class Witness(Hand):
    """Writes down all that it is asked and told."""

    def __init__(self, number, many, rounds):
        Hand.__init__(self, number, many, rounds)
        self.asked = []

    def say(self, turn):
        self.asked.append(("say", turn))
        return [((self.number,), to, 10 * turn + to) for to in (2, 0, 3)]

    def hear(self, turn, letters):
        self.asked.append(("hear", turn, list(letters)))

    def ending(self):
        return -4


class TestHand(unittest.TestCase):
    def test_fields(self):
        for number, many, rounds in [(0, 1, 1), (3, 7, 8), (6, 7, 0)]:
            hand = Hand(number, many, rounds)
            self.assertEqual((hand.number, hand.many, hand.rounds), (number, many, rounds))

    def test_says_nothing(self):
        hand = Hand(1, 4, 3)
        for turn in (1, 2, 3, 1, 30):
            self.assertEqual(hand.say(turn), [])
        hand.say(1).append(((1,), 0, 5))
        self.assertEqual(hand.say(1), [])

    def test_keeps_nothing_and_ends_with_the_still_word(self):
        hand = Hand(1, 4, 3)
        self.assertEqual(hand.ending(), 0)
        letters = [((0,), 5), ((2,), None), ((3,), 5)]
        self.assertIsNone(hand.hear(1, letters))
        self.assertIsNone(hand.hear(2, []))
        self.assertEqual(letters, [((0,), 5), ((2,), None), ((3,), 5)])
        self.assertEqual(hand.ending(), 0)
        self.assertIs(type(hand.ending()), int)
        self.assertEqual(hand.say(3), [])


class TestScribe(unittest.TestCase):
    def test_fields(self):
        scribe = Scribe(2, 5, 4, LINES)
        self.assertIsInstance(scribe, Hand)
        self.assertEqual((scribe.number, scribe.many, scribe.rounds), (2, 5, 4))

    def test_says_its_lines_of_the_round_in_their_order(self):
        scribe = Scribe(0, 4, 4, LINES)
        self.assertEqual(scribe.say(1), [((0,), 2, 5), ((0,), 1, None), ((0,), 3, -7), ((2,), 1, 5)])
        self.assertEqual(scribe.say(2), [((0, 3), 1, 6), ((3,), 1, 0)])
        self.assertEqual(scribe.say(3), [])
        self.assertEqual(scribe.say(4), [((0,), 1, TOP)])
        self.assertEqual(scribe.say(5), [])
        self.assertEqual(Scribe(0, 4, 4, []).say(1), [])

    def test_says_the_same_when_asked_again(self):
        scribe = Scribe(0, 4, 4, LINES)
        first = scribe.say(1)
        same = list(first)
        self.assertIs(type(first), list)
        first.clear()
        self.assertEqual(scribe.say(1), same)
        scribe.hear(1, [((3,), 9)])
        self.assertEqual(scribe.say(1), same)

    def test_lines_stay_and_are_not_kept(self):
        lines = list(LINES)
        scribe = Scribe(0, 4, 4, lines)
        said = scribe.say(1)
        self.assertEqual(lines, LINES)
        lines.clear()
        self.assertEqual(scribe.say(1), said)
        lines.append((1, (0,), 2, 9))
        self.assertEqual(scribe.say(1), said)

    def test_keeps_all_that_comes(self):
        scribe = Scribe(0, 4, 4, LINES)
        self.assertEqual(scribe.came(), [])
        self.assertIsNone(scribe.hear(1, [((2,), 5), ((1,), None), ((2,), 5)]))
        self.assertIsNone(scribe.hear(2, []))
        self.assertEqual(scribe.came(), [(1, (2,), 5), (1, (1,), None), (1, (2,), 5)])
        scribe.hear(3, [((0, 1), -TOP)])
        self.assertEqual(scribe.came(), [(1, (2,), 5), (1, (1,), None), (1, (2,), 5), (3, (0, 1), -TOP)])
        for line in scribe.came():
            self.assertIs(type(line), tuple)

    def test_what_it_keeps_is_its_own(self):
        scribe = Scribe(0, 4, 4, [])
        letters = [((2,), 5), ((1,), 6)]
        before = copy.deepcopy(letters)
        scribe.hear(1, letters)
        self.assertEqual(letters, before)
        letters.clear()
        told = scribe.came()
        self.assertEqual(told, [(1, (2,), 5), (1, (1,), 6)])
        told.clear()
        self.assertEqual(scribe.came(), [(1, (2,), 5), (1, (1,), 6)])
        self.assertEqual(scribe.ending(), 5)

    def test_ending(self):
        for came, end in [
            ([], 0), ([None], 0), ([None, None, 4], 4), ([4, 3, 4], 4), ([4, 3], 3), ([1, -1], -1), ([0, 5, 5], 5),
            ([0, 5], 0), ([TOP, -TOP, TOP], TOP),
        ]:
            scribe = Scribe(0, 4, 4, LINES)
            for turn, word in enumerate(came, 1):
                scribe.hear(turn, [((1,), word)])
            self.assertEqual(scribe.ending(), end, came)
            self.assertIs(type(scribe.ending()), int)
            together = Scribe(0, 4, 4, [])
            together.hear(1, [((1,), word) for word in came])
            self.assertEqual(together.ending(), end, came)

    def test_two_scribes_do_not_touch(self):
        one, other = Scribe(0, 4, 4, LINES), Scribe(0, 4, 4, [])
        one.hear(1, [((2,), 5)])
        self.assertEqual((other.came(), other.ending(), other.say(1)), ([], 0, []))


class TestLiar(unittest.TestCase):
    def test_fields(self):
        inner = Scribe(2, 5, 4, LINES)
        liar = Liar(inner, [])
        self.assertIsInstance(liar, Hand)
        self.assertEqual((liar.number, liar.many, liar.rounds), (2, 5, 4))
        self.assertIs(liar.inner, inner)

    def test_without_lies_as_the_hand(self):
        liar = Liar(Scribe(0, 4, 4, LINES), [])
        for turn in range(1, 6):
            self.assertEqual(liar.say(turn), Scribe(0, 4, 4, LINES).say(turn))

    def test_the_lies_word(self):
        lies = [(1, (0,), 2, 8), (1, (0,), 1, 9), (1, (0,), 3, None), (2, (3,), 1, -1)]
        liar = Liar(Scribe(0, 4, 4, LINES), lies)
        self.assertEqual(liar.say(1), [((0,), 2, 8), ((0,), 1, 9), ((0,), 3, None), ((2,), 1, 5)])
        self.assertEqual(liar.say(2), [((0, 3), 1, 6), ((3,), 1, -1)])
        self.assertEqual(liar.say(4), [((0,), 1, TOP)])

    def test_the_last_lie_holds(self):
        lies = [(1, (0,), 2, 8), (1, (0,), 2, None), (1, (0,), 2, 7), (1, (0,), 3, 7), (1, (0,), 3, None)]
        said = Liar(Scribe(0, 4, 4, LINES), lies).say(1)
        self.assertEqual(said, [((0,), 2, 7), ((0,), 1, None), ((0,), 3, None), ((2,), 1, 5)])

    def test_a_lie_for_what_the_hand_does_not_say(self):
        lies = [(3, (0,), 2, 8), (1, (3,), 1, 9), (2, (0,), 2, 9), (1, (0, 3), 2, 9), (1, (2,), 3, 9), (1, (0,), 0, 9)]
        liar = Liar(Scribe(0, 4, 4, LINES), lies)
        for turn in range(1, 6):
            self.assertEqual(liar.say(turn), Scribe(0, 4, 4, LINES).say(turn))

    def test_hears_and_ends_as_the_hand(self):
        inner = Scribe(0, 4, 4, LINES)
        liar = Liar(inner, [(1, (0,), 2, 8), (1, (2,), 0, 8)])
        self.assertIsNone(liar.hear(1, [((2,), 5), ((3,), None)]))
        self.assertIsNone(liar.hear(2, [((2,), 5), ((3,), 6)]))
        self.assertEqual(inner.came(), [(1, (2,), 5), (1, (3,), None), (2, (2,), 5), (2, (3,), 6)])
        self.assertEqual(liar.ending(), 5)
        self.assertEqual(Liar(Witness(0, 4, 4), []).ending(), -4)

    def test_a_hand_that_changes(self):
        inner = Witness(1, 4, 3)
        liar = Liar(inner, [(2, (1,), 0, 99)])
        self.assertEqual(liar.say(1), [((1,), 2, 12), ((1,), 0, 10), ((1,), 3, 13)])
        self.assertEqual(liar.say(2), [((1,), 2, 22), ((1,), 0, 99), ((1,), 3, 23)])
        liar.hear(2, [((0,), 5)])
        self.assertEqual(inner.asked, [("say", 1), ("say", 2), ("hear", 2, [((0,), 5)])])

    def test_a_liar_of_a_liar(self):
        inner = Liar(Scribe(0, 4, 4, LINES), [(1, (0,), 2, 8), (1, (0,), 3, 8)])
        liar = Liar(inner, [(1, (0,), 2, 9), (1, (0,), 1, 7)])
        self.assertEqual(liar.say(1), [((0,), 2, 9), ((0,), 1, 7), ((0,), 3, 8), ((2,), 1, 5)])
        self.assertIs(liar.inner, inner)
        self.assertEqual(inner.say(1), [((0,), 2, 8), ((0,), 1, None), ((0,), 3, 8), ((2,), 1, 5)])
        liar.hear(1, [((2,), 5)])
        self.assertEqual(liar.ending(), 5)
        self.assertEqual(inner.inner.came(), [(1, (2,), 5)])

    def test_lies_stay_and_are_not_kept(self):
        lies = [(1, (0,), 2, 8)]
        liar = Liar(Scribe(0, 4, 4, LINES), lies)
        said = liar.say(1)
        self.assertEqual(lies, [(1, (0,), 2, 8)])
        lies.append((1, (0,), 2, 9))
        self.assertEqual(liar.say(1), said)
        lies.clear()
        self.assertEqual(liar.say(1), said)

    def test_list_is_the_askers_own(self):
        liar = Liar(Scribe(0, 4, 4, LINES), [(1, (0,), 2, 8)])
        said = liar.say(1)
        same = list(said)
        said.clear()
        self.assertEqual(liar.say(1), same)
        for letter in same:
            self.assertIs(type(letter), tuple)


class TestCrasher(unittest.TestCase):
    def test_fields(self):
        inner = Scribe(2, 5, 4, LINES)
        crasher = Crasher(inner, 3, (1,))
        self.assertIsInstance(crasher, Hand)
        self.assertEqual((crasher.number, crasher.many, crasher.rounds), (2, 5, 4))
        self.assertIs(crasher.inner, inner)

    def test_ahead_of_its_round_as_the_hand(self):
        inner = Witness(1, 4, 9)
        crasher = Crasher(inner, 3, ())
        for turn in (1, 2):
            self.assertEqual(crasher.say(turn), Witness(1, 4, 9).say(turn))
            self.assertIsNone(crasher.hear(turn, [((0,), turn)]))
        self.assertEqual(
            inner.asked, [("say", 1), ("hear", 1, [((0,), 1)]), ("say", 2), ("hear", 2, [((0,), 2)])],
        )

    def test_in_its_round(self):
        for reached, words in [
            ((), [None, None, None]), ((0,), [None, 30, None]), ((2, 3), [32, None, 33]), ((3, 2), [32, None, 33]),
            ((0, 0), [None, 30, None]), ((0, 1, 2, 3), [32, 30, 33]), ((1,), [None, None, None]),
        ]:
            crasher = Crasher(Witness(1, 4, 9), 3, reached)
            self.assertEqual(crasher.say(3), [((1,), to, word) for to, word in zip((2, 0, 3), words)])
            self.assertEqual(crasher.say(3), [((1,), to, word) for to, word in zip((2, 0, 3), words)])

    def test_in_later_rounds(self):
        crasher = Crasher(Witness(1, 4, 9), 3, (0, 2, 3))
        for turn in (4, 5, 9):
            self.assertEqual(crasher.say(turn), [((1,), 2, None), ((1,), 0, None), ((1,), 3, None)])

    def test_just_the_letters_that_the_hand_says(self):
        crasher = Crasher(Scribe(0, 4, 4, LINES), 2, (1,))
        self.assertEqual(crasher.say(1), Scribe(0, 4, 4, LINES).say(1))
        self.assertEqual(crasher.say(2), [((0, 3), 1, 6), ((3,), 1, 0)])
        self.assertEqual(crasher.say(3), [])
        self.assertEqual(crasher.say(4), [((0,), 1, None)])
        crasher = Crasher(Scribe(0, 4, 4, LINES), 1, (3, 1))
        self.assertEqual(crasher.say(1), [((0,), 2, None), ((0,), 1, None), ((0,), 3, -7), ((2,), 1, 5)])

    def test_hears_nothing_from_its_round_on(self):
        inner = Scribe(0, 4, 4, LINES)
        crasher = Crasher(inner, 2, (0, 1, 2, 3))
        for turn in range(1, 5):
            self.assertIsNone(crasher.hear(turn, [((1,), 10 * turn)]))
        self.assertEqual(inner.came(), [(1, (1,), 10)])
        self.assertEqual(crasher.ending(), 10)

    def test_the_hand_is_not_told_of_these_rounds(self):
        inner = Witness(1, 4, 9)
        crasher = Crasher(inner, 1, (0,))
        for turn in (1, 2, 3):
            crasher.hear(turn, [])
        self.assertEqual([row for row in inner.asked if row[0] == "hear"], [])

    def test_ends_as_the_hand(self):
        self.assertEqual(Crasher(Witness(1, 4, 9), 1, ()).ending(), -4)
        self.assertEqual(Crasher(Scribe(1, 4, 9, []), 1, ()).ending(), 0)

    def test_a_round_that_does_not_come(self):
        crasher = Crasher(Scribe(0, 4, 4, LINES), 30, ())
        for turn in range(1, 5):
            self.assertEqual(crasher.say(turn), Scribe(0, 4, 4, LINES).say(turn))
            crasher.hear(turn, [((1,), turn)])
        self.assertEqual(len(crasher.inner.came()), 4)

    def test_a_crasher_of_a_liar(self):
        inner = Liar(Witness(1, 4, 9), [(1, (1,), 0, 7), (2, (1,), 0, 8), (2, (1,), 2, 9), (3, (1,), 0, 9)])
        crasher = Crasher(inner, 2, (0,))
        self.assertEqual(crasher.say(1), [((1,), 2, 12), ((1,), 0, 7), ((1,), 3, 13)])
        self.assertEqual(crasher.say(2), [((1,), 2, None), ((1,), 0, 8), ((1,), 3, None)])
        self.assertEqual(crasher.say(3), [((1,), 2, None), ((1,), 0, None), ((1,), 3, None)])
        self.assertEqual((crasher.number, crasher.many, crasher.rounds), (1, 4, 9))
        self.assertEqual(crasher.ending(), -4)

    def test_a_liar_of_a_crasher(self):
        liar = Liar(Crasher(Witness(1, 4, 9), 1, ()), [(1, (1,), 0, 7)])
        self.assertEqual(liar.say(1), [((1,), 2, None), ((1,), 0, 7), ((1,), 3, None)])

    def test_list_is_the_askers_own(self):
        crasher = Crasher(Scribe(0, 4, 4, LINES), 2, (1,))
        for turn in (1, 2, 4):
            said = crasher.say(turn)
            same = list(said)
            self.assertIs(type(said), list)
            said.clear()
            self.assertEqual(crasher.say(turn), same)


if __name__ == "__main__":
    unittest.main()
