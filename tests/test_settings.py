import copy
import unittest

from things import TOP, Alike, assert_refused, no_wholes

from traitorround.errors import NoCount, NoHand, NoLetter
from traitorround.settings import Setting

GOOD = (1, (0,), 1, 5)

# Lies that are none among four hands.
NO_LIES = [
    # no tuple
    None, 0, 7, True, "", "lie", [1, (0,), 1, 5], {}, {1: 2}, object(), Alike(), 1.5,
    # of another length
    (), (1,), (1, (0,)), (1, (0,), 1), (1, (0,), 1, 5, 5), (1, (0,), 1, 5, True),
    # the round
    (0, (0,), 1, 5), (-1, (0,), 1, 5), (31, (0,), 1, 5), (TOP, (0,), 1, 5), (10 ** 60, (0,), 1, 5),
    (True, (0,), 1, 5), (None, (0,), 1, 5), ("1", (0,), 1, 5), (1.0, (0,), 1, 5), ((1,), (0,), 1, 5),
    ([1], (0,), 1, 5), (Alike(), (0,), 1, 5),
    # the path
    (1, (), 1, 5), (1, (0, 0), 1, 5), (1, (0, 2, 0), 1, 5), (1, (4,), 1, 5), (1, (-1,), 1, 5), (1, (0, 4), 1, 5),
    (1, [0], 1, 5), (1, 0, 1, 5), (1, None, 1, 5), (1, "0", 1, 5), (1, (True,), 0, 5), (1, (False,), 1, 5),
    (1, (None,), 1, 5), (1, ("0",), 1, 5), (1, ([],), 1, 5), (1, ((0,),), 1, 5), (1, (0.0,), 1, 5),
    (1, (0, 2, 3, 0, 2, 3, 0, 2), 1, 5), (1, tuple(range(8)), 1, 5), (1, (Alike(),), 1, 5),
    # the reader
    (1, (0,), 0, 5), (1, (0, 2), 0, 5), (1, (0, 2), 2, 5), (1, (0, 3, 2), 3, 5), (1, (0,), 4, 5), (1, (0,), -1, 5),
    (1, (0,), True, 5), (1, (1,), False, 5), (1, (0,), None, 5), (1, (0,), "1", 5), (1, (0,), (1,), 5),
    (1, (0,), [1], 5), (1, (0,), 1.0, 5), (1, (0,), 10 ** 60, 5), (1, (2,), Alike(), 5),
    # the word
    (1, (0,), 1, 10 ** 60), (1, (0,), 1, -10 ** 60), (1, (0,), 1, True), (1, (0,), 1, False), (1, (0,), 1, ""),
    (1, (0,), 1, "5"), (1, (0,), 1, "-"), (1, (0,), 1, [5]), (1, (0,), 1, (5,)), (1, (0,), 1, 5.0),
    (1, (0,), 1, {}), (1, (0,), 1, Alike()),
]


class TestFields(unittest.TestCase):
    def test_numbers(self):
        for many in range(1, 8):
            for bound in range(6):
                setting = Setting(many, bound)
                self.assertEqual((setting.many, setting.bound), (many, bound))

    def test_lists_left_out_or_none(self):
        for setting in (
            Setting(4, 1), Setting(4, 1, []), Setting(4, 1, [], []), Setting(4, 1, None), Setting(4, 1, None, None),
            Setting(4, 1, None, []), Setting(4, 1, [], None),
        ):
            self.assertEqual((setting.liars, setting.lies), ((), ()))
            self.assertIs(type(setting.liars), tuple)
            self.assertIs(type(setting.lies), tuple)

    def test_one_list_told(self):
        setting = Setting(4, 1, [2])
        self.assertEqual((setting.liars, setting.lies), ((2,), ()))
        setting = Setting(4, 1, [2], None)
        self.assertEqual((setting.liars, setting.lies), ((2,), ()))
        setting = Setting(4, 1, None, [GOOD])
        self.assertEqual((setting.liars, setting.lies), ((), (GOOD,)))

    def test_liars_rising_each_once(self):
        self.assertEqual(Setting(7, 2, [5, 0, 3]).liars, (0, 3, 5))
        self.assertEqual(Setting(7, 2, [3, 3, 0, 3, 0]).liars, (0, 3))
        self.assertEqual(Setting(7, 2, list(range(6, -1, -1)) * 3).liars, tuple(range(7)))
        self.assertEqual(Setting(1, 0, [0]).liars, (0,))
        self.assertIs(type(Setting(7, 2, [5, 0]).liars), tuple)

    def test_lies_as_told(self):
        lies = [(3, (2, 1), 0, 5), (1, (0,), 1, None), (3, (2, 1), 0, 5), (3, (2, 1), 0, -6), (30, (3,), 2, 0)]
        setting = Setting(4, 1, [2], lies)
        self.assertEqual(setting.lies, tuple(lies))
        self.assertIs(type(setting.lies), tuple)
        self.assertEqual(Setting(4, 1, [2], lies[::-1]).lies, tuple(lies[::-1]))

    def test_trues(self):
        self.assertEqual(Setting(4, 1).trues(), [0, 1, 2, 3])
        self.assertEqual(Setting(4, 1, [2, 2]).trues(), [0, 1, 3])
        self.assertEqual(Setting(7, 0, [6, 0, 3]).trues(), [1, 2, 4, 5])
        self.assertEqual(Setting(3, 1, [0, 1, 2]).trues(), [])
        self.assertEqual(Setting(1, 0).trues(), [0])

    def test_trues_are_the_askers_own(self):
        setting = Setting(4, 1, [2])
        told = setting.trues()
        self.assertIs(type(told), list)
        told.append(2)
        told.reverse()
        self.assertEqual(setting.trues(), [0, 1, 3])
        self.assertIsNot(setting.trues(), setting.trues())
        self.assertEqual(setting.liars, (2,))

    def test_lists_stay_and_are_not_kept(self):
        liars = [2, 0, 2]
        lies = [GOOD, (2, (0, 2), 1, None)]
        before = copy.deepcopy((liars, lies))
        setting = Setting(4, 1, liars, lies)
        self.assertEqual((liars, lies), before)
        liars.append(1)
        liars[0] = 3
        lies.clear()
        self.assertEqual((setting.liars, setting.lies), ((0, 2), tuple(before[1])))
        self.assertEqual(setting.trues(), [1, 3])

    def test_lists_stay_where_it_is_refused(self):
        liars = [2, 0, 2, 4]
        lies = [GOOD, None]
        before = copy.deepcopy((liars, lies))
        assert_refused(self, NoHand, 4, Setting, 4, 1, liars, lies)
        assert_refused(self, NoLetter, 1, Setting, 5, 1, liars, lies)
        self.assertEqual((liars, lies), before)

    def test_two_settings_do_not_touch(self):
        one, other = Setting(4, 1, [2], [GOOD]), Setting(5, 2, [3], [])
        self.assertEqual((one.many, one.bound, one.liars, one.lies), (4, 1, (2,), (GOOD,)))
        self.assertEqual((other.many, other.bound, other.liars, other.lies), (5, 2, (3,), ()))


class TestTaken(unittest.TestCase):
    def test_lies_at_the_edges(self):
        for lie in [
            (1, (0,), 1, 0), (30, (0,), 1, 0), (1, (6,), 0, TOP), (1, (6,), 0, -TOP), (1, (6,), 0, None),
            (1, (6, 5, 4, 3, 2, 1), 0, 5), (30, (0, 1, 2, 3, 4, 5), 6, None), (5, (2, 0, 5), 1, -1),
        ]:
            self.assertEqual(Setting(7, 2, [], [lie]).lies, (lie,))

    def test_a_lie_of_a_hand_that_does_not_lie(self):
        self.assertEqual(Setting(4, 1, [3], [GOOD]).lies, (GOOD,))

    def test_more_lying_hands_than_the_bound(self):
        self.assertEqual(Setting(4, 0, [3, 1, 2]).liars, (1, 2, 3))
        self.assertEqual(Setting(4, 1, [3, 1, 2, 0]).liars, (0, 1, 2, 3))

    def test_the_bound_beside_the_number_of_hands(self):
        self.assertEqual(Setting(1, 5).bound, 5)


class TestRefused(unittest.TestCase):
    def test_number_of_hands(self):
        for thing in [0, -1, 8, 9, 100, TOP, 10 ** 60, -10 ** 60] + no_wholes():
            assert_refused(self, NoCount, thing, Setting, thing, 1)
            assert_refused(self, NoCount, thing, Setting, thing, 1, [0], [GOOD])

    def test_bound(self):
        for thing in [-1, -5, 6, 7, 100, TOP, 10 ** 60, -10 ** 60] + no_wholes():
            assert_refused(self, NoCount, thing, Setting, 4, thing)
            assert_refused(self, NoCount, thing, Setting, 7, thing, [0], [GOOD])

    def test_lying_hands(self):
        for many in (1, 4, 7):
            for thing in [-1, -many, many, many + 1, 10 ** 60] + no_wholes():
                assert_refused(self, NoHand, thing, Setting, many, 1, [thing])
                assert_refused(self, NoHand, thing, Setting, many, 1, [0, thing, 0])
                assert_refused(self, NoHand, thing, Setting, many, 1, [0, 0, thing], [])

    def test_the_first_lying_hand_that_is_none(self):
        assert_refused(self, NoHand, 9, Setting, 4, 1, [1, 9, -1, None])
        assert_refused(self, NoHand, None, Setting, 4, 1, [1, None, 9, -1])
        assert_refused(self, NoHand, -1, Setting, 4, 1, [-1, 9])

    def test_lies(self):
        for thing in NO_LIES:
            for before in range(3):
                lies = [GOOD] * before + [thing, GOOD]
                assert_refused(self, NoLetter, before, Setting, 4, 1, [0], lies)

    def test_path_of_more_than_seven(self):
        assert_refused(self, NoLetter, 0, Setting, 7, 1, [], [(1, tuple(range(8)), 6, 5)])
        assert_refused(self, NoLetter, 0, Setting, 7, 1, [], [(1, tuple(range(7)), 7, 5)])
        assert_refused(self, NoLetter, 0, Setting, 7, 1, [], [(1, tuple(range(7)), 6, 5)])

    def test_one_hand_has_no_lies(self):
        assert_refused(self, NoLetter, 0, Setting, 1, 0, [0], [(1, (0,), 0, 5)])
        assert_refused(self, NoLetter, 0, Setting, 1, 0, [0], [GOOD])

    def test_the_first_lie_that_is_none(self):
        assert_refused(self, NoLetter, 1, Setting, 4, 1, [], [GOOD, None, (), GOOD, 0])
        assert_refused(self, NoLetter, 0, Setting, 4, 1, [], [(), GOOD, None])

    def test_hands_of_another_number_of_hands(self):
        self.assertEqual(Setting(5, 1, [4], [(1, (4,), 0, 5)]).liars, (4,))
        assert_refused(self, NoHand, 4, Setting, 4, 1, [4], [(1, (4,), 0, 5)])
        assert_refused(self, NoLetter, 0, Setting, 4, 1, [3], [(1, (4,), 0, 5)])
        assert_refused(self, NoLetter, 0, Setting, 4, 1, [3], [(1, (0,), 4, 5)])


class TestOrder(unittest.TestCase):
    def test_where_several_are_wrong_the_first_is_refused(self):
        assert_refused(self, NoCount, 8, Setting, 8, 6, [9], [None])
        assert_refused(self, NoCount, 0, Setting, 0, -1)
        assert_refused(self, NoCount, "4", Setting, "4", True, [None], [()])
        assert_refused(self, NoCount, 6, Setting, 4, 6, [9], [None])
        assert_refused(self, NoCount, None, Setting, 4, None, [9], [None])
        assert_refused(self, NoHand, 9, Setting, 4, 5, [9], [None])
        assert_refused(self, NoHand, True, Setting, 4, 5, [3, True], [()])
        assert_refused(self, NoLetter, 0, Setting, 4, 5, [3], [()])


if __name__ == "__main__":
    unittest.main()
