import copy
import itertools
import math
import unittest

from traitorround.paths import is_path, letters_due, paths

NO_HANDS = [
    True, False, None, "", "0", "1", [], [1], (), (0,), (1, 2), {}, {0: 1}, 0.0, 1.0, b"1", {1}, object(),
    10 ** 60, -10 ** 60,
]


class TestIsPath(unittest.TestCase):
    def test_unlike_hands_in_any_order(self):
        for many in range(1, 8):
            for length in range(1, many + 1):
                for path in itertools.permutations(range(many), length):
                    self.assertIs(is_path(path, many), True, path)

    def test_seven_hands_and_more(self):
        self.assertIs(is_path((6, 5, 4, 3, 2, 1, 0), 7), True)
        self.assertIs(is_path((6, 5, 4, 3, 2, 1, 0, 6), 7), False)
        self.assertIs(is_path((0, 1, 2, 3, 4, 5, 6), 8), True)
        self.assertIs(is_path((0, 1, 2, 3, 4, 5, 6, 7), 7), False)
        self.assertIs(is_path((0, 1, 2, 3, 4, 5, 6, 7), 8), False)
        self.assertIs(is_path(tuple(range(9)), 9), False)
        self.assertIs(is_path(tuple(range(2000)), 2000), False)

    def test_no_hands_at_all(self):
        for many in range(1, 8):
            self.assertIs(is_path((), many), False)

    def test_things_of_other_kinds(self):
        things = [
            None, 0, 1, -1, 10 ** 60, True, False, "", "0", "01", "0.1", [], [0], [0, 1], {}, {0: 1}, {0: 0, 1: 1},
            0.0, b"\x00", {0, 1}, frozenset([0]), range(2), object(), tuple, iter([0]),
        ]
        for many in (1, 2, 7):
            for thing in things:
                self.assertIs(is_path(thing, many), False, repr(thing))

    def test_doubles(self):
        for length in range(2, 8):
            for one, other in itertools.combinations(range(length), 2):
                path = list(range(length))
                path[other] = path[one]
                self.assertIs(is_path(tuple(path), 7), False, path)

    def test_one_that_is_no_hand_in_any_place(self):
        for length in range(1, 8):
            for place in range(length):
                for wrong in [-1, -7, 7, 8] + NO_HANDS:
                    path = list(range(length))
                    path[place] = wrong
                    self.assertIs(is_path(tuple(path), 7), False, repr(path))

    def test_the_number_of_hands(self):
        for many in range(1, 8):
            self.assertIs(is_path((many - 1,), many), True)
            self.assertIs(is_path((many,), many), False)
            self.assertIs(is_path((0, many), many), False)
            self.assertIs(is_path((-1,), many), False)

    def test_thing_stays(self):
        for thing in ([0, 1, 1], {0: [1]}, ([0], 1, {2: 3}), (0, [1])):
            before = copy.deepcopy(thing)
            is_path(thing, 7)
            self.assertEqual(thing, before)


def paths_by_trying(many, sender, length, without):
    hands = [hand for hand in range(many) if hand not in (sender, without)]
    if sender == without:
        return []
    return sorted((sender,) + rest for rest in itertools.permutations(hands, length - 1))


class TestPaths(unittest.TestCase):
    def test_by_hand(self):
        self.assertEqual(paths(4, 2, 1), [(2,)])
        self.assertEqual(paths(4, 2, 2), [(2, 0), (2, 1), (2, 3)])
        self.assertEqual(paths(4, 2, 3), [(2, 0, 1), (2, 0, 3), (2, 1, 0), (2, 1, 3), (2, 3, 0), (2, 3, 1)])
        self.assertEqual(paths(4, 2, 3, 0), [(2, 1, 3), (2, 3, 1)])
        self.assertEqual(paths(4, 2, 4, 0), [])
        self.assertEqual(paths(4, 0, 2, 3), [(0, 1), (0, 2)])

    def test_one_hand(self):
        self.assertEqual(paths(1, 0, 1), [(0,)])
        self.assertEqual(paths(1, 0, 1, None), [(0,)])
        self.assertEqual(paths(1, 0, 1, 0), [])
        self.assertEqual(paths(1, 0, 2), [])

    def test_every_number_of_hands_sender_length_and_without(self):
        for many in range(1, 8):
            for sender in range(many):
                for length in range(1, many + 3):
                    wanted = paths_by_trying(many, sender, length, None)
                    self.assertEqual(paths(many, sender, length), wanted)
                    self.assertEqual(paths(many, sender, length, None), wanted)
                    for without in range(many):
                        wanted = paths_by_trying(many, sender, length, without)
                        self.assertEqual(paths(many, sender, length, without), wanted)

    def test_without_the_sender(self):
        for many in range(1, 8):
            for sender in range(many):
                for length in range(1, many + 2):
                    self.assertEqual(paths(many, sender, length, sender), [])

    def test_longer_than_there_are_hands(self):
        for many in range(1, 8):
            for length in range(many + 1, 31):
                self.assertEqual(paths(many, 0, length), [])
            self.assertEqual(len(paths(many, 0, many)), math.factorial(many - 1))

    def test_rising_and_each_once(self):
        for length in range(1, 8):
            told = paths(7, 3, length)
            self.assertTrue(all(one < other for one, other in zip(told, told[1:])))

    def test_no_path_is_longer_than_seven(self):
        self.assertEqual(len(paths(8, 0, 7)), 5040)
        self.assertEqual(paths(8, 0, 8), [])

    def test_kinds(self):
        for told in (paths(4, 1, 3), paths(4, 1, 1), paths(4, 1, 5), paths(4, 1, 2, 1)):
            self.assertIs(type(told), list)
            for path in told:
                self.assertIs(type(path), tuple)
                self.assertTrue(all(type(hand) is int for hand in path))

    def test_all_are_paths(self):
        for length in range(1, 8):
            for path in paths(7, 6, length, 2):
                self.assertTrue(is_path(path, 7))

    def test_what_is_told_is_the_askers_own(self):
        for call in [(4, 1, 3), (4, 1, 1), (4, 1, 5), (4, 1, 2, 1), (5, 0, 2, 3), (1, 0, 1)]:
            first = paths(*call)
            same = list(first)
            first.append((9,))
            first.reverse()
            self.assertEqual(paths(*call), same, call)
            first.clear()
            self.assertEqual(paths(*call), same, call)

    def test_a_shorter_list_that_is_changed_changes_no_longer_one(self):
        paths(5, 2, 1).clear()
        paths(5, 2, 2).clear()
        self.assertEqual(paths(5, 2, 3), paths_by_trying(5, 2, 3, None))


class TestLettersDue(unittest.TestCase):
    def test_the_documents_own(self):
        self.assertEqual(letters_due(7, 3), 6 + 30 + 120)

    def test_by_hand(self):
        self.assertEqual([letters_due(7, rounds) for rounds in range(9)], [0, 6, 36, 156, 516, 1236, 1956, 1956, 1956])
        self.assertEqual([letters_due(4, rounds) for rounds in range(6)], [0, 3, 9, 15, 15, 15])
        self.assertEqual([letters_due(2, rounds) for rounds in range(4)], [0, 1, 1, 1])

    def test_no_rounds(self):
        for many in range(1, 8):
            self.assertEqual(letters_due(many, 0), 0)

    def test_one_hand(self):
        for rounds in range(31):
            self.assertEqual(letters_due(1, rounds), 0)

    def test_more_rounds_than_hands(self):
        for many in range(1, 8):
            whole = letters_due(many, many - 1)
            for rounds in range(many, 31):
                self.assertEqual(letters_due(many, rounds), whole, (many, rounds))

    def test_one_letter_for_each_path_and_reader(self):
        for many in range(1, 8):
            for rounds in range(31):
                written = [paths(many, 0, turn) for turn in range(1, min(rounds, many) + 1)]
                due = sum(many - len(path) for row in written for path in row)
                self.assertEqual(letters_due(many, rounds), due, (many, rounds))

    def test_kind(self):
        for many, rounds in [(7, 3), (7, 0), (1, 1), (3, 30)]:
            self.assertIs(type(letters_due(many, rounds)), int)


if __name__ == "__main__":
    unittest.main()
