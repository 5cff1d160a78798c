import copy
import itertools
import unittest

from things import TOP

from traitorround.roads import lies_of, road


class TestRoad(unittest.TestCase):
    def test_no_lies(self):
        way = road([])
        for word in (5, 0, -TOP, None):
            self.assertEqual(way(1, (0,), 1, word), word)

    def test_the_word_of_the_lie(self):
        way = road([(2, (0, 3), 1, 7)])
        for word in (5, 7, 0, None):
            self.assertEqual(way(2, (0, 3), 1, word), 7)

    def test_a_lie_of_none(self):
        way = road([(2, (0, 3), 1, None)])
        for word in (5, 0, None):
            self.assertIsNone(way(2, (0, 3), 1, word))

    def test_a_lie_of_the_still_word(self):
        told = road([(2, (0, 3), 1, 0)])(2, (0, 3), 1, 5)
        self.assertEqual(told, 0)
        self.assertIs(type(told), int)

    def test_the_last_one_holds(self):
        lies = [(1, (0,), 1, 5), (1, (0,), 2, 6), (1, (0,), 1, 7)]
        self.assertEqual(road(lies)(1, (0,), 1, 9), 7)
        self.assertEqual(road(lies)(1, (0,), 2, 9), 6)
        self.assertIsNone(road(lies + [(1, (0,), 1, None)])(1, (0,), 1, 9))
        self.assertEqual(road([(1, (0,), 1, None)] + lies)(1, (0,), 1, 9), 7)
        self.assertEqual(road(lies + [(1, (0,), 1, 5)])(1, (0,), 1, 9), 5)

    def test_lies_that_differ_in_one_thing(self):
        way = road([(2, (0, 3, 1), 4, 7)])
        for turn, path, to in [
            (1, (0, 3, 1), 4), (3, (0, 3, 1), 4), (2, (0, 3, 1), 5), (2, (0, 3, 1), 2), (2, (2, 3, 1), 4),
            (2, (0, 2, 1), 4), (2, (0, 3, 2), 4), (2, (0, 1, 3), 4), (2, (0, 3), 4), (2, (0, 3, 1, 2), 4),
            (2, (3, 1), 4),
        ]:
            self.assertEqual(way(turn, path, to, 9), 9, (turn, path, to))
            self.assertIsNone(way(turn, path, to, None))

    def test_every_letter_of_many_lies(self):
        letters = [
            (turn, path, to) for turn in (1, 2, 3) for length in (1, 2)
            for path in itertools.permutations(range(4), length) for to in range(4) if to not in path
        ]
        lies = [letter + (None if k % 5 == 0 else k % 7 - 3,) for k, letter in enumerate(letters + letters[::3])]
        lies = [lie for k, lie in enumerate(lies) if k % 4]
        way = road(lies)
        for letter in letters:
            told = [lie[3] for lie in lies if lie[:3] == letter] or [77]
            self.assertEqual(way(*letter, 77), told[-1], letter)

    def test_asked_in_any_order_and_again(self):
        way = road([(1, (0,), 1, 5), (1, (0,), 2, None)])
        for ask in range(3):
            self.assertEqual([way(1, (0,), to, 8) for to in (3, 2, 1)], [8, None, 5])

    def test_lies_stay_and_are_not_kept(self):
        lies = [(1, (0,), 1, 5), (1, (0,), 2, 6)]
        before = copy.deepcopy(lies)
        way = road(lies)
        self.assertEqual(way(1, (0,), 1, 9), 5)
        self.assertEqual(lies, before)
        lies[0] = (1, (0,), 1, 8)
        lies.append((1, (0,), 3, 4))
        self.assertEqual([way(1, (0,), to, 9) for to in (1, 2, 3)], [5, 6, 9])
        lies.clear()
        self.assertEqual([way(1, (0,), to, 9) for to in (1, 2, 3)], [5, 6, 9])

    def test_two_roads_do_not_touch(self):
        one, other = road([(1, (0,), 1, 5)]), road([(1, (0,), 1, 6)])
        self.assertEqual((one(1, (0,), 1, 9), other(1, (0,), 1, 9)), (5, 6))


LETTERS = [
    (1, (0,), 1, 5), (1, (0,), 2, 5), (1, (0,), 3, None), (2, (0, 1), 2, 5), (2, (0, 1), 3, 5), (2, (0, 2), 1, 5),
    (2, (0, 2), 3, 5), (2, (0, 3), 1, 5), (2, (0, 3), 2, 5),
]


class TestLiesOf(unittest.TestCase):
    def test_as_many_words_as_letters(self):
        self.assertEqual(
            lies_of(LETTERS, [1, 3], [7, None, 0, -TOP]),
            [(2, (0, 1), 2, 7), (2, (0, 1), 3, None), (2, (0, 3), 1, 0), (2, (0, 3), 2, -TOP)],
        )

    def test_the_end_of_the_path_counts(self):
        self.assertEqual(
            lies_of(LETTERS, [0], [1, 2, 3, 4]), [(1, (0,), 1, 1), (1, (0,), 2, 2), (1, (0,), 3, 3)],
        )

    def test_order_of_the_letters_as_they_stand(self):
        self.assertEqual(
            lies_of(LETTERS[::-1], [3, 1], [1, 2, 3, 4]),
            [(2, (0, 3), 2, 1), (2, (0, 3), 1, 2), (2, (0, 1), 3, 3), (2, (0, 1), 2, 4)],
        )

    def test_fewer_words_than_letters(self):
        self.assertEqual(lies_of(LETTERS, [0, 2], [8, 9]), [(1, (0,), 1, 8), (1, (0,), 2, 9)])
        self.assertEqual(lies_of(LETTERS, [2], [None]), [(2, (0, 2), 1, None)])

    def test_more_words_than_letters(self):
        self.assertEqual(lies_of(LETTERS, [2], [1, 2, 3, 4]), [(2, (0, 2), 1, 1), (2, (0, 2), 3, 2)])

    def test_none_of_either(self):
        for letters, liars, row in [
            ([], [0], [1]), (LETTERS, [], [1]), (LETTERS, [0], []), (LETTERS, [4], [1]), ([], [], []),
        ]:
            told = lies_of(letters, liars, row)
            self.assertEqual(told, [])
            self.assertIs(type(told), list)

    def test_words_of_the_letters_do_not_matter(self):
        silent = [letter[:3] + (None,) for letter in LETTERS]
        self.assertEqual(lies_of(silent, [0, 1], [3, None, 4]), lies_of(LETTERS, [0, 1], [3, None, 4]))

    def test_the_reader_is_the_letters_place(self):
        self.assertEqual(lies_of([(3, (2, 0), 9, 1), (3, (2, 0), 12, 1)], [0], [5, 6]), [
            (3, (2, 0), 9, 5), (3, (2, 0), 12, 6),
        ])

    def test_a_letter_twice(self):
        self.assertEqual(
            lies_of([LETTERS[0], LETTERS[0]], [0], [5, 6]), [(1, (0,), 1, 5), (1, (0,), 1, 6)],
        )

    def test_lying_hands_as_a_tuple(self):
        self.assertEqual(lies_of(LETTERS, (2,), [1]), [(2, (0, 2), 1, 1)])

    def test_lists_stay_and_are_not_kept(self):
        letters, liars, row = list(LETTERS), [3, 1, 3], [7, None]
        told = lies_of(letters, liars, row)
        same = list(told)
        self.assertEqual((letters, liars, row), (LETTERS, [3, 1, 3], [7, None]))
        letters.clear()
        liars.clear()
        row[0] = 8
        self.assertEqual(told, same)

    def test_list_is_the_askers_own(self):
        told = lies_of(LETTERS, [1], [7, 8])
        told.clear()
        self.assertEqual(lies_of(LETTERS, [1], [7, 8]), [(2, (0, 1), 2, 7), (2, (0, 1), 3, 8)])

    def test_kinds(self):
        for lie in lies_of(LETTERS, [0, 1, 2, 3], [5] * 20):
            self.assertIs(type(lie), tuple)
            self.assertEqual(len(lie), 4)


if __name__ == "__main__":
    unittest.main()
