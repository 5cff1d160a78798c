import unittest

from things import TOP, Alike, assert_refused, no_wholes

from traitorround.errors import NoCount, NoHand, NoWay, NoWord
from traitorround.kings import KingHand, Kings
from traitorround.oral import Oral, OralHand
from traitorround.rings import Ring
from traitorround.settings import Setting
from traitorround.town import heard, run

WAYS = ("oral", "kings")
SIZES = [(3, 1), (3, 2), (4, 2), (5, 2), (6, 2)]
PAIRS = [(5, 6), (6, 5), (0, 1), (1, 0), (-TOP, TOP), (-1, 0)]

# For each play: the lying group, and for the true groups the copy that they stand for.
LYING = [2, 0, 1]
STANDING = [{0: 0, 1: 0}, {1: 0, 2: 1}, {2: 1, 0: 1}]


def group(hand, many, sender):
    return (hand - sender + many) % many % 3


def all_rings(pairs):
    for way in WAYS:
        for many, bound in SIZES:
            for sender in range(many):
                for one, other in pairs:
                    yield Ring(way, many, bound, sender, one, other), (way, many, bound, sender, one, other)


class TestGroupsAndWires(unittest.TestCase):
    def test_groups(self):
        for ring, (way, many, bound, sender, one, other) in all_rings(PAIRS[:1]):
            told = ring.groups()
            self.assertIs(type(told), tuple)
            self.assertEqual(len(told), 3)
            for number, hands in enumerate(told):
                self.assertIs(type(hands), tuple)
                self.assertEqual(hands, tuple(k for k in range(many) if group(k, many, sender) == number))
                self.assertTrue(1 <= len(hands) <= bound)
            self.assertIn(sender, told[0])

    def test_groups_written_out(self):
        self.assertEqual(Ring("oral", 3, 1, 0, 5, 6).groups(), ((0,), (1,), (2,)))
        self.assertEqual(Ring("oral", 3, 1, 2, 5, 6).groups(), ((2,), (0,), (1,)))
        self.assertEqual(Ring("kings", 5, 2, 3, 5, 6).groups(), ((1, 3), (2, 4), (0,)))
        self.assertEqual(Ring("kings", 6, 2, 4, 5, 6).groups(), ((1, 4), (2, 5), (0, 3)))

    def test_wires(self):
        for ring, (way, many, bound, sender, one, other) in all_rings(PAIRS[:1]):
            wires = ring.wires()
            self.assertIs(type(wires), list)
            self.assertEqual(len(wires), 2 * many)
            for place, row in enumerate(wires):
                self.assertIs(type(row), list)
                self.assertEqual(len(row), many)
                for reader, goes in enumerate(row):
                    self.assertIs(type(goes), int)
                    self.assertTrue(0 <= goes < 2 * many)
                    first = place < many
                    groups = {group(place % many, many, sender), group(reader, many, sender)}
                    if groups == {1, 2}:
                        first = not first
                    if reader != place % many:
                        self.assertEqual(goes, reader if first else many + reader)

    def test_wires_written_out(self):
        wires = Ring("oral", 3, 1, 0, 5, 6).wires()
        there = [[row[k] for k in range(3) if k != place % 3] for place, row in enumerate(wires)]
        self.assertEqual(there, [[1, 2], [0, 5], [0, 4], [4, 5], [3, 2], [3, 1]])

    def test_wires_are_the_askers_own(self):
        ring = Ring("oral", 4, 2, 1, 5, 6)
        same = ring.wires()
        told = ring.wires()
        told[0][1] = 99
        told[1].clear()
        told.pop()
        self.assertEqual(ring.wires(), same)
        self.assertEqual(len(ring.letters()), 2 * (3 + 6 + 6))


class TestLetters(unittest.TestCase):
    def test_as_the_town_of_both_copies_writes_them(self):
        for ring, (way, many, bound, sender, one, other) in all_rings(PAIRS[:3]):
            hands = []
            for word in (one, other):
                for k in range(many):
                    its = word if k == sender else None
                    if way == "oral":
                        hands.append(OralHand(k, many, bound + 1, sender, its))
                    else:
                        hands.append(KingHand(k, many, bound, sender, its))
            rounds = bound + 1 if way == "oral" else 1 + 3 * (bound + 1)
            self.assertEqual(ring.letters(), run(hands, rounds, ring.wires()))

    def test_written_out(self):
        self.assertEqual(Ring("oral", 3, 1, 0, 5, 6).letters(), [
            (1, (0,), 1, 5), (1, (0,), 2, 5), (1, (0,), 4, 6), (1, (0,), 5, 6),
            (2, (0, 1), 2, 6), (2, (0, 1), 5, 5), (2, (0, 2), 1, 6), (2, (0, 2), 4, 5),
        ])

    def test_list_is_the_askers_own(self):
        for way in WAYS:
            ring = Ring(way, 3, 1, 0, 5, 6)
            told = ring.letters()
            same = list(told)
            self.assertIs(type(told), list)
            told.clear()
            self.assertEqual(ring.letters(), same)
            self.assertEqual(ring.setting_of(0).lies, Ring(way, 3, 1, 0, 5, 6).setting_of(0).lies)


class TestPlays(unittest.TestCase):
    def test_setting_and_word(self):
        for ring, (way, many, bound, sender, one, other) in all_rings(PAIRS[:3]):
            for play in range(3):
                setting = ring.setting_of(play)
                self.assertIsInstance(setting, Setting)
                self.assertEqual((setting.many, setting.bound), (many, bound))
                lying = tuple(k for k in range(many) if group(k, many, sender) == LYING[play])
                self.assertEqual(setting.liars, lying)
                self.assertLessEqual(len(lying), bound)
                lies = []
                for turn, path, place, word in ring.letters():
                    reader = place % many
                    stands = STANDING[play].get(group(reader, many, sender)) == place // many
                    if stands and path[-1] in lying:
                        lies.append((turn, path, reader, word))
                self.assertEqual(setting.lies, tuple(lies))
                self.assertEqual(ring.word_in(play), other if play == 2 else one)

    def test_written_out(self):
        ring = Ring("oral", 3, 1, 0, 5, 6)
        self.assertEqual([ring.setting_of(play).liars for play in range(3)], [(2,), (0,), (1,)])
        self.assertEqual([ring.setting_of(play).lies for play in range(3)], [
            ((2, (0, 2), 1, 6),),
            ((1, (0,), 1, 5), (1, (0,), 2, 6)),
            ((2, (0, 1), 2, 5),),
        ])
        self.assertEqual([ring.word_in(play) for play in range(3)], [5, 5, 6])
        self.assertEqual([ring.played(play).endings() for play in range(3)], [[5, 5, 5], [5, 5, 5], [6, 6, 5]])
        self.assertEqual(ring.parted(), (2, 0, 2))

    def test_played(self):
        for ring, (way, many, bound, sender, one, other) in all_rings(PAIRS[:2]):
            for play in range(3):
                told = ring.played(play)
                self.assertIsInstance(told, Oral if way == "oral" else Kings)
                make = Oral if way == "oral" else Kings
                same = make(ring.setting_of(play), sender, ring.word_in(play))
                self.assertEqual(told.letters(), same.letters())
                self.assertEqual(told.endings(), same.endings())
                self.assertEqual(told.ending(sender), ring.word_in(play))

    def test_true_hands_hear_what_is_heard_in_the_ring(self):
        for ring, (way, many, bound, sender, one, other) in all_rings(PAIRS):
            plays = [ring.played(play) for play in range(3)]
            for play in range(3):
                for hand in ring.setting_of(play).trues():
                    place = hand + many * STANDING[play][group(hand, many, sender)]
                    self.assertEqual(heard(plays[play].letters(), hand), heard(ring.letters(), place))
            for one_play, other_play, number in [(0, 1, 1), (1, 2, 2)]:
                for hand in ring.groups()[number]:
                    self.assertEqual(
                        heard(plays[one_play].letters(), hand), heard(plays[other_play].letters(), hand),
                    )
                    self.assertEqual(plays[one_play].ending(hand), plays[other_play].ending(hand))

    def test_parted(self):
        first_plays = set()
        for ring, (way, many, bound, sender, one, other) in all_rings(PAIRS):
            told = ring.parted()
            self.assertIs(type(told), tuple)
            found = []
            for play in range(3):
                ends = ring.played(play).endings()
                trues = ring.setting_of(play).trues()
                found.extend((play, trues[0], hand) for hand in trues if ends[hand] != ends[trues[0]])
            self.assertEqual(told, found[0], (way, many, bound, sender, one, other))
            self.assertEqual(ring.parted(), told)
            first_plays.add(told[0])
        self.assertEqual(first_plays, {0, 1, 2})


class TestRefused(unittest.TestCase):
    def test_way(self):
        for thing in ["Oral", "ORAL", "oral ", " kings", "king", "signed", "flood", "o", "ral", 0, 10 ** 60] + no_wholes():
            assert_refused(self, NoWay, thing, Ring, thing, 3, 1, 0, 5, 6)

    def test_bound(self):
        for thing in [0, 3, -1, 5, 10 ** 60] + no_wholes():
            assert_refused(self, NoCount, thing, Ring, "oral", 3, thing, 0, 5, 6)

    def test_many(self):
        for bound, most in [(1, 3), (2, 6)]:
            for thing in [2, 1, 0, -1, most + 1, 7, 10 ** 60] + no_wholes():
                assert_refused(self, NoCount, thing, Ring, "kings", thing, bound, 0, 5, 6)

    def test_sender(self):
        for thing in [-1, 3, 4, 10 ** 60] + no_wholes():
            assert_refused(self, NoHand, thing, Ring, "oral", 3, 1, thing, 5, 6)

    def test_words(self):
        for thing in [10 ** 60, -10 ** 60] + no_wholes():
            assert_refused(self, NoWord, thing, Ring, "oral", 3, 1, 0, thing, 6)
            assert_refused(self, NoWord, thing, Ring, "oral", 3, 1, 0, 5, thing)

    def test_words_that_are_alike(self):
        for word in (0, 5, -TOP):
            assert_refused(self, NoWord, word, Ring, "oral", 3, 1, 0, word, word)

    def test_order(self):
        assert_refused(self, NoWay, None, Ring, None, 9, 9, 9, None, None)
        assert_refused(self, NoCount, 9, Ring, "oral", 8, 9, 9, None, None)
        assert_refused(self, NoCount, 8, Ring, "oral", 8, 2, 9, None, None)
        assert_refused(self, NoHand, 9, Ring, "oral", 3, 1, 9, None, None)
        assert_refused(self, NoWord, "x", Ring, "oral", 3, 1, 2, "x", None)
        assert_refused(self, NoWord, None, Ring, "oral", 3, 1, 2, 5, None)
        assert_refused(self, NoWay, "signed", Ring, "signed", 3, 1, 0, 5, 5)

    def test_play(self):
        for way in WAYS:
            ring = Ring(way, 3, 1, 0, 5, 6)
            for thing in [3, -1, -3, 10 ** 60, Alike()] + no_wholes():
                for ask in (ring.setting_of, ring.word_in, ring.played):
                    assert_refused(self, NoCount, thing, ask, thing)


if __name__ == "__main__":
    unittest.main()
