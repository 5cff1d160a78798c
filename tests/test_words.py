import copy
import itertools
import unittest

from things import NEAR, TOP, Alike

from traitorround.errors import NoCount, NoHand, NoWord, RoundError
from traitorround.words import count_of, hand_of, is_whole, is_word, most, strong, tally, times, word_of

WHOLES = [
    0, 1, -1, 2, 6, 7, 30, -30, 2 ** 31, 2 ** 63, 2 ** 64, -2 ** 64, 10 ** 59, -10 ** 59, NEAR, TOP, -NEAR, -TOP,
    10 ** 60, -10 ** 60, 10 ** 60 + 1, -10 ** 60 - 1, 10 ** 61, -10 ** 61, 10 ** 3999, -10 ** 3999,
]


def others():
    return [
        True, False, None, "", "0", "7", "-7", "seven", "7" * 61, [], [1], [[1], None], (), (1,), (1, 2), {}, {1: 2},
        {0: [1]}, 0.0, 1.0, 1.5, float("inf"), float("nan"), 1j, b"", b"7", {1}, frozenset([1]), range(3), object(),
        int, bool, len, Alike(),
    ]


class TestIsWhole(unittest.TestCase):
    def test_whole_numbers_small_and_great(self):
        for thing in WHOLES:
            self.assertIs(is_whole(thing), True, thing)

    def test_truths_are_none(self):
        self.assertIs(is_whole(True), False)
        self.assertIs(is_whole(False), False)

    def test_things_of_other_kinds_are_none(self):
        for thing in others():
            self.assertIs(is_whole(thing), False, repr(thing))


class TestIsWord(unittest.TestCase):
    def test_every_word_up_to_sixty_figures(self):
        for figures in range(1, 61):
            for thing in (10 ** (figures - 1), 10 ** figures - 1):
                self.assertIs(is_word(thing), True, thing)
                self.assertIs(is_word(-thing), True, -thing)
        self.assertIs(is_word(0), True)

    def test_the_edge_of_sixty_figures(self):
        self.assertEqual(len(str(TOP)), 60)
        self.assertIs(is_word(TOP), True)
        self.assertIs(is_word(TOP + 1), False)
        self.assertIs(is_word(-TOP), True)
        self.assertIs(is_word(-TOP - 1), False)

    def test_longer_numbers_are_none(self):
        for thing in (10 ** 60 + 1, 10 ** 61, 10 ** 100, 10 ** 3999, 10 ** 4000 - 1):
            self.assertIs(is_word(thing), False)
            self.assertIs(is_word(-thing), False)

    def test_truths_and_none_are_none(self):
        for thing in (True, False, None):
            self.assertIs(is_word(thing), False)

    def test_things_of_other_kinds_are_none(self):
        for thing in others():
            self.assertIs(is_word(thing), False, repr(thing))


class TestThingsStay(unittest.TestCase):
    def test_what_is_asked_about_stays_as_it_was(self):
        for ask in (is_whole, is_word):
            for thing in ([3, None, [1]], {1: [2], 2: None}, ([1], {2: 3})):
                before = copy.deepcopy(thing)
                ask(thing)
                self.assertEqual(thing, before)

    def test_what_is_refused_stays_as_it_was(self):
        for ask in (lambda thing: count_of(thing, 0, 9), lambda thing: hand_of(thing, 7), word_of):
            for thing in ([3, None, [1]], {1: [2], 2: None}, ([1], {2: 3})):
                before = copy.deepcopy(thing)
                with self.assertRaises(RoundError):
                    ask(thing)
                self.assertEqual(thing, before)


class TestTaken(unittest.TestCase):
    def assert_told(self, told, thing):
        self.assertEqual(told, thing)
        self.assertIs(type(told), int)

    def assert_refused(self, refusal, field, call, thing):
        with self.assertRaises(refusal) as taken:
            call(thing)
        self.assertIs(type(taken.exception), refusal)
        self.assertIs(getattr(taken.exception, field), thing)

    def test_count_within_the_bounds(self):
        for least, greatest in [(1, 7), (0, 5), (1, 30), (0, 0), (-3, 3), (-9, -4), (10 ** 60 - 2, 10 ** 60 + 2)]:
            for thing in range(least, greatest + 1):
                self.assert_told(count_of(thing, least, greatest), thing)

    def test_count_beyond_the_bounds(self):
        for least, greatest in [(1, 7), (0, 5), (1, 30), (0, 0), (-3, 3), (-9, -4), (10 ** 60 - 2, 10 ** 60 + 2)]:
            for thing in (least - 1, greatest + 1, least - 100, greatest + 100, -10 ** 70, 10 ** 70):
                self.assert_refused(NoCount, "told", lambda it: count_of(it, least, greatest), thing)

    def test_count_where_no_number_lies_between(self):
        for thing in (2, 3, 4, 5):
            self.assert_refused(NoCount, "told", lambda it: count_of(it, 5, 2), thing)

    def test_count_beside_sixty_figures(self):
        for thing in (TOP, 10 ** 60, 10 ** 60 + 1, -TOP, -10 ** 60, -10 ** 60 - 1):
            self.assert_refused(NoCount, "told", lambda it: count_of(it, 1, 7), thing)
            self.assert_told(count_of(thing, -10 ** 61, 10 ** 61), thing)

    def test_count_of_other_kinds(self):
        for thing in others():
            self.assert_refused(NoCount, "told", lambda it: count_of(it, 0, 7), thing)

    def test_hand_of_these(self):
        for many in range(1, 8):
            for thing in range(many):
                self.assert_told(hand_of(thing, many), thing)

    def test_hand_beyond_these(self):
        for many in range(1, 8):
            for thing in (-1, -many, many, many + 1, 100, TOP, 10 ** 60, -TOP, -10 ** 60):
                self.assert_refused(NoHand, "hand", lambda it: hand_of(it, many), thing)

    def test_hand_of_other_kinds(self):
        for many in (1, 2, 7):
            for thing in others():
                self.assert_refused(NoHand, "hand", lambda it: hand_of(it, many), thing)

    def test_word(self):
        for thing in (0, 1, -1, 42, 2 ** 64, 10 ** 59, -10 ** 59, NEAR, -NEAR, TOP, -TOP):
            self.assert_told(word_of(thing), thing)

    def test_word_beyond_sixty_figures(self):
        for thing in (10 ** 60, 10 ** 60 + 1, 10 ** 61, 10 ** 3999):
            self.assert_refused(NoWord, "word", word_of, thing)
            self.assert_refused(NoWord, "word", word_of, -thing)

    def test_word_of_other_kinds(self):
        for thing in others():
            self.assert_refused(NoWord, "word", word_of, thing)


def small_lists():
    for length in range(6):
        for row in itertools.product((None, -2, 0, 1), repeat=length):
            yield list(row)


class TestTimes(unittest.TestCase):
    def test_how_often(self):
        words = [3, None, 3, -3, 0, 3, None, 0]
        self.assertEqual(times(words, 3), 3)
        self.assertEqual(times(words, 0), 2)
        self.assertEqual(times(words, -3), 1)

    def test_a_word_that_is_not_there(self):
        self.assertEqual(times([3, None, 3], 4), 0)
        self.assertEqual(times([3, None, 3], 0), 0)
        self.assertEqual(times([3, None, 3], -3), 0)
        self.assertEqual(times([], 0), 0)
        self.assertEqual(times([None, None], 0), 0)

    def test_words_of_sixty_figures(self):
        words = [TOP, NEAR, -TOP, TOP, -NEAR, -TOP, TOP]
        self.assertEqual([times(words, word) for word in (TOP, NEAR, -TOP, -NEAR, NEAR - 1)], [3, 1, 2, 1, 0])

    def test_list_stays(self):
        words = [3, None, 1, 3]
        times(words, 3)
        self.assertEqual(words, [3, None, 1, 3])

    def test_list_is_not_kept(self):
        words = [3, None, 1]
        self.assertEqual(times(words, 3), 1)
        words.append(3)
        self.assertEqual(times(words, 3), 2)


class TestTally(unittest.TestCase):
    def test_falling_by_times(self):
        self.assertEqual(tally([1, 2, 2, 3, 3, 3]), [(3, 3), (2, 2), (1, 1)])
        self.assertEqual(tally([9, 5, 9, 5, 5]), [(5, 3), (9, 2)])
        self.assertEqual(tally([1] + [2] * 9 + [3] * 10), [(3, 10), (2, 9), (1, 1)])

    def test_the_lesser_word_first(self):
        self.assertEqual(tally([7, 3, 5]), [(3, 1), (5, 1), (7, 1)])
        self.assertEqual(tally([7, 3, 7, 3, 5]), [(3, 2), (7, 2), (5, 1)])
        self.assertEqual(tally([10, 9, 100]), [(9, 1), (10, 1), (100, 1)])

    def test_words_below_0(self):
        self.assertEqual(tally([1, -1, 0, -10, -9]), [(-10, 1), (-9, 1), (-1, 1), (0, 1), (1, 1)])
        self.assertEqual(tally([2, -2, -2, 2, 1]), [(-2, 2), (2, 2), (1, 1)])
        # -1 and -2 have one hash value in common.
        self.assertEqual(tally([-1, -2, -1]), [(-1, 2), (-2, 1)])

    def test_the_still_word_counts(self):
        self.assertEqual(tally([0, 0, 5]), [(0, 2), (5, 1)])
        self.assertEqual(tally([0, None]), [(0, 1)])

    def test_none_is_left_out(self):
        self.assertEqual(tally([None, 4, None, 4, None]), [(4, 2)])
        self.assertEqual(tally([None, 4]), [(4, 1)])

    def test_no_words(self):
        self.assertEqual(tally([]), [])
        self.assertEqual(tally([None]), [])
        self.assertEqual(tally([None] * 5), [])

    def test_words_of_sixty_figures(self):
        self.assertEqual(tally([TOP, NEAR, TOP - 2]), [(TOP - 2, 1), (NEAR, 1), (TOP, 1)])
        self.assertEqual(tally([NEAR, TOP, TOP]), [(TOP, 2), (NEAR, 1)])
        self.assertEqual(tally([-NEAR, -TOP, NEAR, TOP]), [(-TOP, 1), (-NEAR, 1), (NEAR, 1), (TOP, 1)])

    def test_a_long_list(self):
        words = [k % 7 for k in range(2000)]
        self.assertEqual(tally(words), [(k, 286) for k in range(5)] + [(5, 285), (6, 285)])

    def test_kinds(self):
        told = tally([2, None, 1, 2])
        self.assertIs(type(told), list)
        for row in told:
            self.assertIs(type(row), tuple)
            self.assertEqual([type(part) for part in row], [int, int])

    def test_all_small_lists(self):
        for words in small_lists():
            there = [word for word in (-2, 0, 1) if word in words]
            rows = sorted((-words.count(word), word) for word in there)
            before = list(words)
            self.assertEqual(tally(words), [(word, -count) for count, word in rows], words)
            self.assertEqual(words, before)

    def test_list_stays(self):
        words = [3, None, 1, 3, None, 2]
        tally(words)
        self.assertEqual(words, [3, None, 1, 3, None, 2])

    def test_list_is_not_kept(self):
        words = [3, None, 1]
        told = tally(words)
        words[0] = 1
        self.assertEqual(told, [(1, 1), (3, 1)])
        self.assertEqual(tally(words), [(1, 2)])

    def test_what_is_told_is_the_askers_own(self):
        for words in ([3, 1, 3], [], [None]):
            first = tally(words)
            same = list(first)
            first.append((9, 9))
            first.reverse()
            self.assertEqual(tally(words), same)
            first.clear()
            self.assertEqual(tally(words), same)
            self.assertIsNot(tally(words), tally(words))

    def test_what_is_told_changes_no_other_answer(self):
        words = [3, 1, 3]
        tally(words).clear()
        self.assertEqual((most(words), strong(words, 2), times(words, 3)), (3, 3, 2))


class TestMost(unittest.TestCase):
    def test_the_most_frequent(self):
        self.assertEqual(most([1, 9, 9]), 9)
        self.assertEqual(most([1, 1, 9]), 1)
        self.assertEqual(most([5]), 5)

    def test_of_several_the_least(self):
        self.assertEqual(most([9, 5, 5, 9, 7]), 5)
        self.assertEqual(most([9, 7, 8]), 7)
        self.assertEqual(most([1, -1]), -1)
        self.assertEqual(most([10, 9]), 9)
        self.assertEqual(most([TOP, NEAR]), NEAR)
        self.assertEqual(most([-NEAR, -TOP]), -TOP)

    def test_none_is_left_out(self):
        self.assertEqual(most([None, None, 4]), 4)
        self.assertEqual(most([None, -4, None]), -4)

    def test_the_still_word_where_there_is_none(self):
        for words in ([], [None], [None, None, None]):
            self.assertEqual(most(words), 0)
            self.assertIs(type(most(words)), int)

    def test_the_still_word_as_any_other(self):
        self.assertEqual(most([0, 5, 5]), 5)
        self.assertEqual(most([0, 0, 5]), 0)
        self.assertEqual(most([0, -5]), -5)

    def test_all_small_lists(self):
        for words in small_lists():
            there = [word for word in words if word is not None]
            best = min(there, key=lambda word: (-words.count(word), word), default=0)
            before = list(words)
            self.assertEqual(most(words), best, words)
            self.assertEqual(words, before)


class TestStrong(unittest.TestCase):
    def test_for_1(self):
        self.assertEqual(strong([4], 1), 4)
        self.assertEqual(strong([7, 4], 1), 4)
        self.assertEqual(strong([7, 4, 7], 1), 7)

    def test_for_as_often_and_beside_it(self):
        for often in range(2, 9):
            words = [6] * often + [1] + [None] * 9
            self.assertEqual(strong(words, often - 1), 6)
            self.assertEqual(strong(words, often), 6)
            self.assertIsNone(strong(words, often + 1))

    def test_for_many_more(self):
        self.assertIsNone(strong([1, 1, 1], 100))
        self.assertIsNone(strong([1, 1, 1], 2000))

    def test_the_first_word_of_the_tally_alone(self):
        self.assertEqual(strong([9, 5, 9, 5], 2), 5)
        self.assertIsNone(strong([9, 5, 9, 5], 3))
        self.assertEqual(strong([1, -1], 1), -1)
        self.assertEqual(strong([TOP, NEAR, TOP], 2), TOP)
        self.assertIsNone(strong([TOP, NEAR], 2))

    def test_the_still_word_as_any_other(self):
        told = strong([0, 0, 5], 2)
        self.assertEqual(told, 0)
        self.assertIs(type(told), int)
        self.assertIsNone(strong([0, 0, 5], 3))

    def test_without_words(self):
        for words in ([], [None], [None] * 7):
            for least in (1, 2, 7):
                self.assertIsNone(strong(words, least))

    def test_all_small_lists(self):
        for words in small_lists():
            before = list(words)
            for least in range(1, 7):
                often = times(words, most(words))
                told = most(words) if often >= least else None
                self.assertEqual(strong(words, least), told, (words, least))
            self.assertEqual(words, before)


if __name__ == "__main__":
    unittest.main()
