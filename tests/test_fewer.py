import unittest

from things import TOP, assert_refused, no_wholes

from traitorround.errors import NoCount, NoHand, NoWord
from traitorround.fewer import short_floods, short_stamps
from traitorround.floods import Floods
from traitorround.settings import Setting
from traitorround.signed import Signed

SIZES = [(many, bound) for bound in range(1, 6) for many in range(bound + 2, 8)]


class TestShortStamps(unittest.TestCase):
    def test_setting(self):
        for many, bound in SIZES:
            for sender in range(many):
                setting = short_stamps(many, bound, sender, 7)
                self.assertIsInstance(setting, Setting)
                self.assertEqual((setting.many, setting.bound), (many, bound))
                order = (list(range(many)) * 2)[sender:sender + bound + 1]
                self.assertEqual(setting.liars, tuple(sorted(order[:-1])))
                self.assertEqual(setting.lies, ((bound, tuple(order[:-1]), order[-1], 7),))

    def test_written_out(self):
        setting = short_stamps(5, 3, 3, -TOP)
        self.assertEqual((setting.liars, setting.lies), ((0, 3, 4), ((3, (3, 4, 0), 1, -TOP),)))
        setting = short_stamps(5, 3, 2, 1)
        self.assertEqual((setting.liars, setting.lies), ((2, 3, 4), ((3, (2, 3, 4), 0, 1),)))
        setting = short_stamps(3, 1, 0, 4)
        self.assertEqual((setting.liars, setting.lies), ((0,), ((1, (0,), 1, 4),)))

    def test_one_round_fewer(self):
        for many, bound in SIZES:
            for sender in range(many):
                for word, senders_word in [(7, 5), (7, 7), (-TOP, 0)]:
                    setting = short_stamps(many, bound, sender, word)
                    fooled = (sender + bound) % many
                    short = Signed(setting, sender, senders_word, bound)
                    whole = Signed(setting, sender, senders_word)
                    for hand in setting.trues():
                        self.assertEqual(short.ending(hand), word if hand == fooled else 0)
                        self.assertEqual(whole.ending(hand), word)


class TestShortFloods(unittest.TestCase):
    def test_crashes(self):
        for many, bound in SIZES:
            told = short_floods(many, bound)
            self.assertIs(type(told), list)
            self.assertEqual(told, [(k, k + 1, (k + 1,)) for k in range(bound)])
        self.assertEqual(short_floods(5, 3), [(0, 1, (1,)), (1, 2, (2,)), (2, 3, (3,))])

    def test_one_round_fewer(self):
        for many, bound in SIZES:
            for words in [list(range(many)), [-5] + [9] * (many - 1), [-1] + list(range(many, 1, -1))]:
                crashes = short_floods(many, bound)
                short = Floods(many, bound, words, crashes, bound)
                self.assertEqual(short.ended(bound)[1], words[0])
                whole = Floods(many, bound, words, crashes)
                self.assertEqual(whole.ended(bound)[1], words[0])
                for hand in range(bound + 1, many):
                    self.assertNotEqual(short.ended(hand)[1], words[0])
                    self.assertEqual(whole.ended(hand)[1], words[0])

    def test_list_is_the_askers_own(self):
        short_floods(5, 3).clear()
        self.assertEqual(len(short_floods(5, 3)), 3)


class TestRefused(unittest.TestCase):
    def test_bound(self):
        for thing in [0, 6, -1, 10 ** 60] + no_wholes():
            assert_refused(self, NoCount, thing, short_stamps, 7, thing, 0, 5)
            assert_refused(self, NoCount, thing, short_floods, 7, thing)

    def test_many(self):
        for bound in range(1, 6):
            for thing in [bound + 1, bound, 0, -1, 8, 9, 10 ** 60] + no_wholes():
                assert_refused(self, NoCount, thing, short_stamps, thing, bound, 0, 5)
                assert_refused(self, NoCount, thing, short_floods, thing, bound)

    def test_sender(self):
        for thing in [-1, 4, 5, 10 ** 60] + no_wholes():
            assert_refused(self, NoHand, thing, short_stamps, 4, 2, thing, 5)

    def test_word(self):
        for thing in [0, 10 ** 60, -10 ** 60] + no_wholes():
            assert_refused(self, NoWord, thing, short_stamps, 4, 2, 3, thing)

    def test_order(self):
        assert_refused(self, NoCount, 6, short_stamps, 9, 6, 9, 0)
        assert_refused(self, NoCount, 9, short_stamps, 9, 5, 9, 0)
        assert_refused(self, NoHand, 9, short_stamps, 7, 5, 9, 0)
        assert_refused(self, NoWord, 0, short_stamps, 7, 5, 6, 0)
        assert_refused(self, NoCount, 6, short_floods, 9, 6)
        assert_refused(self, NoCount, 9, short_floods, 9, 5)


if __name__ == "__main__":
    unittest.main()
