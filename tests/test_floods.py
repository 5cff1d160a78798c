import copy
import itertools
import random
import unittest

from things import TOP, Alike, assert_refused, no_wholes

from traitorround.errors import NoCount, NoHand, NoLetter, NoWord
from traitorround.floods import FloodHand, Floods, crashes_of
from traitorround.hands import Hand

GOOD = (0, 1, (1,))

# Things that are no crash among four hands.
NO_CRASHES = [
    # no tuple, or of another length
    None, 0, True, "", "crash", [1, 1, ()], {}, object(), Alike(), (), (1,), (1, 1), (1, 1, (), ()), (1, 1, (), 5),
    # the hand
    (-1, 1, ()), (4, 1, ()), (True, 1, ()), (False, 1, ()), (None, 1, ()), ("1", 1, ()), ((1,), 1, ()), ([1], 1, ()),
    (1.0, 1, ()), (10 ** 60, 1, ()), (Alike(), 1, ()),
    # the round
    (1, 0, ()), (1, -1, ()), (1, 31, ()), (1, True, ()), (1, None, ()), (1, "1", ()), (1, 1.0, ()), (1, (1,), ()),
    (1, 10 ** 60, ()), (1, [], ()), (1, Alike(), ()),
    # those that are reached
    (1, 1, []), (1, 1, [2]), (1, 1, None), (1, 1, 2), (1, 1, "2"), (1, 1, {2: 3}), (1, 1, (4,)), (1, 1, (-1,)),
    (1, 1, (2, 4)), (1, 1, (2, True)), (1, 1, (False,)), (1, 1, (None,)), (1, 1, ("2",)), (1, 1, ((2,),)),
    (1, 1, ([],)), (1, 1, (2, 2.0)), (1, 1, (Alike(),)), (1, 1, Alike()),
]


class TestCrashesOf(unittest.TestCase):
    def test_as_told(self):
        for crashes in [
            [], [GOOD], [(3, 30, ()), (0, 1, (3, 1, 2))], [(1, 2, (2, 2, 2))], [(1, 2, (1,))], [(2, 5, (0, 1, 2, 3, 0))],
            [(k, 1, ()) for k in (3, 1, 0, 2)], [(1, 2, (3,) * 20)],
        ]:
            told = crashes_of(4, crashes)
            self.assertEqual(told, crashes)
            self.assertIs(type(told), list)
            self.assertIsNot(told, crashes)

    def test_things_that_are_none(self):
        for thing in NO_CRASHES:
            assert_refused(self, NoLetter, 0, crashes_of, 4, [thing])
            assert_refused(self, NoLetter, 1, crashes_of, 4, [GOOD, thing])
            assert_refused(self, NoLetter, 2, crashes_of, 4, [GOOD, (2, 3, ()), thing, GOOD])

    def test_the_number_of_hands(self):
        self.assertEqual(crashes_of(5, [(4, 1, (3,))]), [(4, 1, (3,))])
        assert_refused(self, NoLetter, 0, crashes_of, 4, [(4, 1, (3,))])
        assert_refused(self, NoLetter, 0, crashes_of, 4, [(3, 1, (4,))])
        self.assertEqual(crashes_of(1, [(0, 1, (0,))]), [(0, 1, (0,))])

    def test_a_second_crash_of_one_hand(self):
        assert_refused(self, NoLetter, 1, crashes_of, 4, [GOOD, GOOD])
        assert_refused(self, NoLetter, 2, crashes_of, 4, [GOOD, (1, 1, ()), (0, 30, ())])
        assert_refused(self, NoLetter, 1, crashes_of, 4, [(1, 30, (2,)), (1, 1, ())])

    def test_the_first_one_is_refused(self):
        assert_refused(self, NoLetter, 1, crashes_of, 4, [GOOD, GOOD, None])
        assert_refused(self, NoLetter, 1, crashes_of, 4, [GOOD, None, GOOD])

    def test_list_stays_and_is_not_kept(self):
        crashes = [GOOD, (2, 3, ())]
        told = crashes_of(4, crashes)
        told.clear()
        self.assertEqual(crashes, [GOOD, (2, 3, ())])
        wrong = [GOOD, None]
        assert_refused(self, NoLetter, 1, crashes_of, 4, wrong)
        self.assertEqual(wrong, [GOOD, None])


def hear_all(hand, *rounds):
    """Each round is told as a dict from hands to words (a tuple, or None)."""
    for turn, words in enumerate(rounds, 1):
        hand.hear(turn, [((other,), words[other]) for other in sorted(words)])


class TestFloodHand(unittest.TestCase):
    def test_fields(self):
        hand = FloodHand(2, 5, 3, 7)
        self.assertIsInstance(hand, Hand)
        self.assertEqual((hand.number, hand.many, hand.rounds), (2, 5, 3))

    def test_at_first(self):
        hand = FloodHand(1, 3, 3, -7)
        self.assertEqual((hand.known(), hand.heard_by(), hand.ended(), hand.ending()), ([-7], [], None, 0))
        self.assertEqual(hand.say(1), [((1,), 0, (-7,)), ((1,), 2, (-7,))])
        self.assertEqual(FloodHand(0, 1, 3, 5).say(1), [])

    def test_says_all_that_it_knows(self):
        hand = FloodHand(1, 4, 9, 7)
        self.assertIsNone(hand.hear(1, [((0,), (9, 3)), ((2,), None), ((3,), (7, 3, -TOP))]))
        self.assertEqual(hand.say(2), [((1,), to, (-TOP, 3, 7, 9)) for to in (0, 2, 3)])
        hear_all(hand, {0: (9,), 3: (TOP, 0)})
        self.assertEqual(hand.say(2), [((1,), to, (-TOP, 0, 3, 7, 9, TOP)) for to in (0, 2, 3)])
        self.assertEqual(hand.known(), [-TOP, 0, 3, 7, 9, TOP])

    def test_the_same_when_asked_again(self):
        hand = FloodHand(1, 3, 3, 7)
        said = hand.say(1)
        said.clear()
        self.assertEqual(hand.say(1), [((1,), 0, (7,)), ((1,), 2, (7,))])

    def test_whom_it_heard(self):
        hand = FloodHand(1, 4, 9, 7)
        hear_all(hand, {0: (9,), 2: None, 3: (7,)}, {3: (7,)}, {}, {0: None, 2: None, 3: None}, {2: ()}, {0: (5,)})
        self.assertEqual(hand.heard_by(), [(0, 1, 3), (1, 3), (1,), (1,), (1, 2), (0, 1)])
        for heard in hand.heard_by():
            self.assertIs(type(heard), tuple)
        self.assertEqual(hand.known(), [5, 7, 9])

    def test_ends_in_round_1_where_it_heard_all(self):
        hand = FloodHand(1, 3, 3, 7)
        hear_all(hand, {0: (9,), 2: (4,)})
        self.assertEqual((hand.ended(), hand.ending()), ((1, 4), 4))
        hand = FloodHand(0, 1, 3, 7)
        hear_all(hand, {})
        self.assertEqual((hand.ended(), hand.ending()), ((1, 7), 7))

    def test_ends_where_it_heard_those_of_the_round_before(self):
        for rounds, end in [
            ([{0: (9,)}, {0: (8,)}], (2, 7)),
            ([{0: (9,)}, {0: (3,)}, {0: (1,)}], (2, 3)),
            ([{0: (9,)}, {2: (3,)}, {0: (1,)}, {0: (0,)}], (4, 0)),
            ([{0: (9,)}, {}, {}, {0: (1,), 2: (1,)}], (3, 7)),
            ([{}, {0: None, 2: None}], (2, 7)),
            ([{0: (9,)}, {0: (9,), 2: (5,)}, {2: (4,)}, {2: (4,)}], (4, 4)),
        ]:
            hand = FloodHand(1, 3, 8, 7)
            hear_all(hand, *rounds)
            self.assertEqual((hand.ended(), hand.ending()), (end, end[1]), rounds)
            # One round earlier it had none.
            hand = FloodHand(1, 3, 8, 7)
            hear_all(hand, *rounds[:end[0] - 1])
            self.assertEqual((hand.ended(), hand.ending()), (None, 0), rounds)

    def test_ends_behind_the_last_round(self):
        for last in range(1, 6):
            hand = FloodHand(1, 3, last, 7)
            rounds = [{0: (20 - k,)} if k % 2 == 0 else {2: (20 - k,)} for k in range(last)]
            hear_all(hand, *rounds[:-1])
            self.assertIsNone(hand.ended())
            hand.hear(last, [((0,), (-3,))] if last % 2 else [((2,), (-3,))])
            self.assertEqual((hand.ended(), hand.ending()), ((last, -3), -3))

    def test_goes_on_behind_its_end(self):
        hand = FloodHand(1, 3, 4, 7)
        hear_all(hand, {0: (9,), 2: (4,)}, {0: (1,)}, {2: (0,)})
        self.assertEqual(hand.ended(), (1, 4))
        self.assertEqual(hand.heard_by(), [(0, 1, 2), (0, 1), (1, 2)])
        self.assertEqual(hand.known(), [0, 1, 4, 7, 9])
        self.assertEqual(hand.say(4), [((1,), 0, (0, 1, 4, 7, 9)), ((1,), 2, (0, 1, 4, 7, 9))])
        hand.hear(4, [])
        self.assertEqual(hand.ended(), (1, 4))

    def test_lists_are_the_askers_own(self):
        hand = FloodHand(1, 3, 4, 7)
        letters = [((0,), (9,))]
        hand.hear(1, letters)
        self.assertEqual(letters, [((0,), (9,))])
        letters.clear()
        for ask in (hand.known, hand.heard_by):
            told = ask()
            self.assertIs(type(told), list)
            same = list(told)
            told.clear()
            told.append(-99)
            self.assertEqual(ask(), same)
        self.assertEqual(hand.say(2), [((1,), 0, (7, 9)), ((1,), 2, (7, 9))])
        hand.hear(2, [((0,), (9,))])
        self.assertEqual(hand.ended(), (2, 7))

    def test_two_hands_do_not_touch(self):
        one, other = FloodHand(1, 3, 4, 7), FloodHand(1, 3, 4, 7)
        hear_all(one, {0: (9,), 2: (4,)})
        self.assertEqual((other.known(), other.heard_by(), other.ended()), ([7], [], None))


class Reckoned:
    """A flood played anew from the document's words."""

    def __init__(self, many, rounds, words, crashes):
        hands = range(many)
        last = {hand: (turn, reached) for hand, turn, reached in crashes}
        self.letters = []
        self.known = [{word} for word in words]
        self.heard = [[] for hand in hands]
        self.ended = [None] * many
        for turn in range(1, rounds + 1):
            said = [tuple(sorted(known)) for known in self.known]
            for hand in hands:
                heard = {hand}
                for writer in hands:
                    if writer != hand:
                        crash, reached = last.get(writer, (99, ()))
                        written = turn < crash or turn == crash and hand in reached
                        self.letters.append((turn, (writer,), hand, said[writer] if written else None))
                        if written and turn < last.get(hand, (99, ()))[0]:
                            heard.add(writer)
                            self.known[hand] |= set(said[writer])
                if turn < last.get(hand, (99, ()))[0]:
                    before = self.heard[hand][-1] if self.heard[hand] else tuple(hands)
                    self.heard[hand].append(tuple(sorted(heard)))
                    if self.ended[hand] is None and (before == tuple(sorted(heard)) or turn == rounds):
                        self.ended[hand] = (turn, min(self.known[hand]))
        self.letters.sort(key=lambda letter: letter[:3])


def samples(often):
    chance = random.Random(9)
    for many in range(1, 8):
        for bound in range(6):
            for time in range(often):
                rounds = chance.choice((None, None, 1, 2, 8))
                crashing = chance.sample(range(many), chance.randrange(many + 1))
                crashes = [
                    (hand, chance.choice((1, 1, 2, 2, 3, 4, bound + 1, 30)),
                     tuple(chance.choices(range(many), k=chance.randrange(many + 1)))) for hand in crashing
                ]
                yield many, bound, chance.choices((3, 0, 5, -TOP, TOP, 8), k=many), crashes, rounds


class TestFloods(unittest.TestCase):
    def test_reckoned_anew(self):
        for many, bound, words, crashes, rounds in samples(12):
            play = Floods(many, bound, words, crashes, rounds)
            anew = Reckoned(many, bound + 1 if rounds is None else rounds, words, crashes)
            self.assertEqual(play.letters(), anew.letters)
            for hand in range(many):
                self.assertEqual(play.known(hand), sorted(anew.known[hand]))
                self.assertEqual(play.heard_by(hand), anew.heard[hand])
                self.assertEqual(play.ended(hand), anew.ended[hand])

    def test_without_crashes(self):
        for play in (Floods(3, 1, [5, 4, 6]), Floods(3, 1, [5, 4, 6], None), Floods(3, 1, [5, 4, 6], [], None)):
            self.assertEqual(play.letters()[:3], [(1, (0,), 1, (5,)), (1, (0,), 2, (5,)), (1, (1,), 0, (4,))])
            self.assertEqual(play.letters()[6:8], [(2, (0,), 1, (4, 5, 6)), (2, (0,), 2, (4, 5, 6))])
            self.assertEqual(len(play.letters()), 12)
            for hand in range(3):
                self.assertEqual(play.known(hand), [4, 5, 6])
                self.assertEqual(play.heard_by(hand), [(0, 1, 2), (0, 1, 2)])
                self.assertEqual(play.ended(hand), (1, 4))

    def test_one_hand(self):
        play = Floods(1, 0, [-3])
        self.assertEqual((play.letters(), play.known(0), play.heard_by(0), play.ended(0)), ([], [-3], [(0,)], (1, -3)))
        play = Floods(1, 2, [-3], [(0, 1, (0,))])
        self.assertEqual((play.letters(), play.known(0), play.heard_by(0), play.ended(0)), ([], [-3], [], None))

    def test_a_crash_that_reaches_some(self):
        play = Floods(3, 1, [1, 5, 6], [(0, 1, (2,))])
        self.assertEqual(play.letters(), [
            (1, (0,), 1, None), (1, (0,), 2, (1,)), (1, (1,), 0, (5,)), (1, (1,), 2, (5,)), (1, (2,), 0, (6,)),
            (1, (2,), 1, (6,)),
            (2, (0,), 1, None), (2, (0,), 2, None), (2, (1,), 0, (5, 6)), (2, (1,), 2, (5, 6)),
            (2, (2,), 0, (1, 5, 6)), (2, (2,), 1, (1, 5, 6)),
        ])
        self.assertEqual([play.known(hand) for hand in range(3)], [[1], [1, 5, 6], [1, 5, 6]])
        self.assertEqual([play.heard_by(hand) for hand in range(3)], [[], [(1, 2), (1, 2)], [(0, 1, 2), (1, 2)]])
        self.assertEqual([play.ended(hand) for hand in range(3)], [None, (2, 1), (1, 1)])

    def test_a_crash_that_reaches_none_or_all(self):
        play = Floods(3, 1, [1, 5, 6], [(0, 1, ())])
        self.assertEqual([play.ended(hand) for hand in range(3)], [None, (2, 5), (2, 5)])
        play = Floods(3, 1, [1, 5, 6], [(0, 1, (0, 1, 2))])
        self.assertEqual([play.ended(hand) for hand in range(3)], [None, (1, 1), (1, 1)])

    def test_a_crash_in_each_round(self):
        for turn in range(1, 5):
            play = Floods(4, 3, [1, 5, 6, 7], [(0, turn, (3,))])
            self.assertEqual(len(play.heard_by(0)), turn - 1)
            self.assertEqual(play.ended(0), None if turn == 1 else (1, 1))
            for hand in (1, 2, 3):
                self.assertEqual(len(play.heard_by(hand)), 4)
                self.assertEqual(play.ended(hand)[1], 1)

    def test_a_crash_in_a_round_that_is_not_played(self):
        plain = Floods(3, 1, [1, 5, 6])
        for turn in (3, 4, 30):
            play = Floods(3, 1, [1, 5, 6], [(0, turn, ())])
            self.assertEqual(play.letters(), plain.letters())
            self.assertEqual([play.ended(hand) for hand in range(3)], [(1, 1)] * 3)
        play = Floods(3, 1, [1, 5, 6], [(0, 3, ())], 3)
        self.assertNotEqual(play.letters(), Floods(3, 1, [1, 5, 6], [], 3).letters())

    def test_rounds(self):
        for bound in range(6):
            self.assertEqual(Floods(2, bound, [1, 2]).letters()[-1][0], bound + 1)
            for rounds in (1, 2, 8):
                self.assertEqual(Floods(2, bound, [1, 2], None, rounds).letters()[-1][0], rounds)
                self.assertEqual(len(Floods(2, bound, [1, 2], None, rounds).heard_by(0)), rounds)

    def test_lists_stay_and_are_not_kept(self):
        words, crashes = [1, 5, 6], [(0, 1, (2,))]
        before = copy.deepcopy((words, crashes))
        play = Floods(3, 1, words, crashes)
        self.assertEqual((words, crashes), before)
        told = (play.letters(), play.known(1), play.heard_by(1), play.ended(1))
        words.clear()
        crashes[0] = (1, 1, ())
        self.assertEqual((play.letters(), play.known(1), play.heard_by(1), play.ended(1)), told)

    def test_lists_are_the_askers_own(self):
        play = Floods(3, 1, [1, 5, 6], [(0, 1, (2,))])
        for ask in (play.letters, lambda: play.known(1), lambda: play.heard_by(1)):
            told = ask()
            self.assertIs(type(told), list)
            same = list(told)
            told.clear()
            told.append(7)
            self.assertEqual(ask(), same)
        self.assertEqual(play.ended(1), (2, 1))


class TestRefused(unittest.TestCase):
    def test_many_and_bound(self):
        for thing in [0, -1, 8, 10 ** 60] + no_wholes():
            assert_refused(self, NoCount, thing, Floods, thing, 1, [1, 2, 3])
        for thing in [-1, 6, 10 ** 60] + no_wholes():
            assert_refused(self, NoCount, thing, Floods, 3, thing, [1, 2, 3])

    def test_how_many_words(self):
        for words in ([], [1], [1, 2], [1, 2, 3, 4], [None] * 9):
            assert_refused(self, NoCount, len(words), Floods, 3, 1, words)

    def test_words(self):
        for thing in [10 ** 60, -10 ** 60] + no_wholes():
            for place in range(3):
                words = [1, 2, 3]
                words[place] = thing
                assert_refused(self, NoWord, thing, Floods, 3, 1, words)
        assert_refused(self, NoWord, "x", Floods, 3, 1, [1, "x", None])

    def test_crashes(self):
        for thing in NO_CRASHES:
            assert_refused(self, NoLetter, 1, Floods, 4, 1, [1, 2, 3, 4], [GOOD, thing])
        assert_refused(self, NoLetter, 1, Floods, 4, 1, [1, 2, 3, 4], [GOOD, GOOD])

    def test_rounds(self):
        for thing in [0, -1, 9, 10 ** 60] + [thing for thing in no_wholes() if thing is not None]:
            assert_refused(self, NoCount, thing, Floods, 3, 1, [1, 2, 3], None, thing)
        for thing in range(1, 9):
            Floods(3, 1, [1, 2, 3], [], thing)

    def test_order(self):
        assert_refused(self, NoCount, 8, Floods, 8, 6, [None], [None], 0)
        assert_refused(self, NoCount, 6, Floods, 3, 6, [None], [None], 0)
        assert_refused(self, NoCount, 1, Floods, 3, 5, [None], [None], 0)
        assert_refused(self, NoWord, None, Floods, 3, 5, [1, None, True], [None], 0)
        assert_refused(self, NoLetter, 0, Floods, 3, 5, [1, 2, 3], [None], 0)
        assert_refused(self, NoCount, 0, Floods, 3, 5, [1, 2, 3], [], 0)

    def test_hand_asked_for(self):
        play = Floods(4, 1, [1, 2, 3, 4])
        for thing in [-1, -4, 4, 10 ** 60] + no_wholes():
            for ask in (play.known, play.heard_by, play.ended):
                assert_refused(self, NoHand, thing, ask, thing)


class TestPromise(unittest.TestCase):
    def hold(self, many, bound, words, crashes):
        play = Floods(many, bound, words, crashes)
        crashing = [hand for hand, turn, reached in crashes if turn <= bound + 1]
        ends = [play.ended(hand) for hand in range(many) if hand not in crashing]
        self.assertLessEqual(len({word for turn, word in ends}), 1, (words, crashes, ends))
        for turn, word in ends:
            self.assertIn(word, words)
            self.assertLessEqual(turn, len(crashing) + 1, (words, crashes, ends))

    def test_all_crashes_of_three_hands(self):
        every = [
            [None] + [(hand, turn, reached) for turn in (1, 2, 3) for number in range(3)
                      for reached in itertools.combinations([k for k in range(3) if k != hand], number)]
            for hand in range(3)
        ]
        for row in itertools.product(*every):
            crashes = [crash for crash in row if crash]
            for bound in range(len([crash for crash in crashes if crash[1] <= 3]), 3):
                self.hold(3, bound, [1, 2, 3], crashes)

    def test_many_crashes(self):
        chance = random.Random(2)
        for many in range(1, 8):
            for bound in range(6):
                for time in range(60):
                    crashing = chance.sample(range(many), chance.randrange(min(many, bound) + 1))
                    crashes = [
                        (hand, chance.randrange(1, bound + 2),
                         tuple(chance.sample(range(many), chance.randrange(min(many, 3) + 1)))) for hand in crashing
                    ]
                    self.hold(many, bound, chance.choices((3, 0, 5, 4, 9, -1), k=many), crashes)

    def test_one_behind_another(self):
        for many in range(2, 8):
            for bound in range(1, min(many, 6)):
                crashes = [(k, k + 1, ((k + 1) % many,)) for k in range(bound)]
                self.hold(many, bound, list(range(many)), crashes)


if __name__ == "__main__":
    unittest.main()
