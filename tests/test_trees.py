import copy
import itertools
import unittest

from things import NEAR, TOP

from traitorround.trees import grown, rows, taken_at

SOME_WORDS = [0, 1, -1, 5, TOP, -TOP, NEAR, -NEAR, None]


def all_paths(many, hand):
    others = [other for other in range(many) if other != hand]
    for length in range(1, len(others) + 1):
        for path in itertools.permutations(others, length):
            yield path


def some_notes(many, hand, seed):
    """Notes for about two of three paths, by a sum that jumps about; no chance in it."""
    notes = {}
    number = seed
    for path in all_paths(many, hand):
        number = (number * 1103515245 + 12345) % 2 ** 31
        if number // 65536 % 3:
            notes[path] = SOME_WORDS[number // 1024 % len(SOME_WORDS)]
    return notes


def most_of(words):
    return min(set(words), key=lambda word: (-words.count(word), word))


def samples():
    for many in range(2, 8):
        for length in range(1, min(many, 4)):
            for rounds in (1, 2, 3, 4, 8):
                if rounds > 4 and many > 6 and length < 2:
                    continue
                for seed in (1, 2):
                    hand = (many * seed + length + rounds) % many
                    path = tuple([other for other in range(many) if other != hand][::-1][:length])
                    yield many, rounds, hand, path, some_notes(many, hand, seed * 77 + rounds)


class TestGrown(unittest.TestCase):
    def look_at(self, tree, many, rounds, hand, path, notes):
        """Reckons all of the tree anew, from the document's words."""
        self.assertIs(type(tree), tuple)
        self.assertEqual(len(tree), 4)
        told_path, held, taken, below = tree
        self.assertEqual(told_path, path)
        self.assertIs(type(told_path), tuple)
        self.assertEqual(held, notes[path] if notes.get(path) is not None else 0)
        self.assertIs(type(held), int)
        self.assertIs(type(below), tuple)
        due = sorted(set(range(many)) - {hand} - set(path)) if len(path) < rounds else []
        self.assertEqual([lower[0] for lower in below], [path + (other,) for other in due])
        for lower in below:
            self.look_at(lower, many, rounds, hand, lower[0], notes)
        self.assertEqual(taken, most_of([held] + [lower[2] for lower in below]))
        self.assertIs(type(taken), int)

    def test_every_tree_below_reckoned_anew(self):
        for many, rounds, hand, path, notes in samples():
            self.look_at(grown(many, rounds, hand, path, notes), many, rounds, hand, path, notes)

    def test_the_greatest_tree(self):
        notes = some_notes(7, 3, 5)
        self.look_at(grown(7, 8, 3, (5,), notes), 7, 8, 3, (5,), notes)

    def test_written_out(self):
        notes = {(0,): 5, (0, 1): 7, (0, 3): 7}
        self.assertEqual(
            grown(4, 2, 2, (0,), notes),
            ((0,), 5, 7, (((0, 1), 7, 7, ()), ((0, 3), 7, 7, ()))),
        )
        self.assertEqual(grown(4, 1, 2, (0,), notes), ((0,), 5, 5, ()))
        self.assertEqual(
            grown(4, 3, 2, (0,), {(0,): 5, (0, 1): 7, (0, 1, 3): 4, (0, 3): 5}),
            (
                (0,), 5, 0,
                (((0, 1), 7, 4, (((0, 1, 3), 4, 4, ()),)), ((0, 3), 5, 0, (((0, 3, 1), 0, 0, ()),))),
            ),
        )

    def test_held_is_still_without_a_note_or_with_none(self):
        for notes in ({}, {(1,): None}, {(2,): 9}, {(1, 0): 9}):
            self.assertEqual(grown(3, 1, 2, (1,), notes), ((1,), 0, 0, ()))
        self.assertEqual(grown(3, 1, 2, (1,), {(1,): 0}), ((1,), 0, 0, ()))

    def test_a_still_word_that_is_held_counts(self):
        self.assertEqual(grown(4, 2, 0, (1,), {(1,): 6})[2], 0)
        self.assertEqual(grown(4, 2, 0, (1,), {(1, 2): 6})[2], 0)
        self.assertEqual(grown(4, 2, 0, (1,), {(1, 2): 6, (1, 3): 6})[2], 6)
        self.assertEqual(grown(3, 2, 0, (1,), {(1, 2): -6})[2], -6)

    def test_of_several_the_least(self):
        self.assertEqual(grown(4, 2, 0, (1,), {(1,): 8, (1, 2): 9, (1, 3): 7})[2], 7)
        self.assertEqual(grown(4, 2, 0, (1,), {(1,): -8, (1, 2): -9, (1, 3): -7})[2], -9)
        self.assertEqual(grown(3, 2, 0, (1,), {(1,): TOP, (1, 2): NEAR})[2], NEAR)
        self.assertEqual(grown(3, 2, 0, (1,), {(1,): -NEAR, (1, 2): -TOP})[2], -TOP)

    def test_words_of_sixty_figures(self):
        notes = {(1,): TOP, (1, 2): -TOP, (1, 3): TOP, (1, 4): NEAR}
        tree = grown(5, 2, 0, (1,), notes)
        self.assertEqual((tree[1], tree[2]), (TOP, TOP))
        self.assertEqual([lower[1] for lower in tree[3]], [-TOP, TOP, NEAR])

    def test_below_ends_with_the_rounds(self):
        for rounds in range(1, 9):
            for length in range(1, 7):
                path = tuple(range(1, length + 1))
                below = grown(7, rounds, 0, path, {})[3]
                self.assertEqual(len(below), 6 - length if length < rounds else 0)

    def test_below_ends_where_no_hand_is_left(self):
        for many in range(2, 8):
            path = tuple(range(many - 1))
            self.assertEqual(grown(many, 8, many - 1, path, {}), (path, 0, 0, ()))

    def test_notes_of_other_paths_change_nothing(self):
        notes = {(2,): 4, (2, 0): 5, (2, 1): 5, (2, 1, 0): 7}
        tree = grown(4, 2, 3, (2,), notes)
        for path in [(0,), (3,), (2, 3), (3, 2), (2, 3, 0), (2, 0, 1), (2, 0, 3), (0, 2), (1, 2), (), (2, 2)]:
            more = dict(notes)
            more[path] = 9
            self.assertEqual(grown(4, 2, 3, (2,), more), tree, path)

    def test_notes_stay_as_they_were(self):
        notes = {(2,): 4, (2, 0): None, (1,): 3}
        before = copy.deepcopy(notes)
        grown(4, 3, 3, (2,), notes)
        self.assertEqual(notes, before)
        self.assertEqual(list(notes), list(before))

    def test_notes_are_not_kept(self):
        notes = {(2,): 4, (2, 0): 5, (2, 1): 5}
        first = grown(4, 2, 3, (2,), notes)
        self.assertEqual((first[1], first[2]), (4, 5))
        notes[(2, 1)] = 4
        self.assertEqual(grown(4, 2, 3, (2,), notes)[2], 4)
        self.assertEqual(first[2], 5)
        notes[(2, 1)] = 5
        self.assertEqual(grown(4, 2, 3, (2,), notes), first)

    def test_another_hand_or_number_of_hands(self):
        notes = {(0,): 1, (0, 1): 2, (0, 2): 3, (0, 3): 4}
        self.assertEqual([lower[0] for lower in grown(4, 2, 1, (0,), notes)[3]], [(0, 2), (0, 3)])
        self.assertEqual([lower[0] for lower in grown(3, 2, 1, (0,), notes)[3]], [(0, 2)])
        self.assertEqual([lower[0] for lower in grown(4, 2, 3, (0,), notes)[3]], [(0, 1), (0, 2)])


def rows_anew(tree):
    told = [(tree[0], tree[1], tree[2])]
    for lower in tree[3]:
        told = told + rows_anew(lower)
    return told


class TestRows(unittest.TestCase):
    def test_its_own_row_then_those_below(self):
        for many, rounds, hand, path, notes in samples():
            tree = grown(many, rounds, hand, path, notes)
            told = rows(tree)
            self.assertIs(type(told), list)
            self.assertEqual(told, rows_anew(tree))
            self.assertEqual([row[0] for row in told], sorted(row[0] for row in told))

    def test_written_out(self):
        tree = grown(4, 3, 2, (0,), {(0,): 5, (0, 1): 7, (0, 1, 3): 7, (0, 3): 7, (0, 3, 1): 7})
        self.assertEqual(rows(tree), [
            ((0,), 5, 7), ((0, 1), 7, 7), ((0, 1, 3), 7, 7), ((0, 3), 7, 7), ((0, 3, 1), 7, 7),
        ])

    def test_order_of_below_as_it_stands(self):
        tree = ((2,), 1, 1, (((2, 3), 4, 4, ()), ((2, 0), 5, 5, ())))
        self.assertEqual(rows(tree), [((2,), 1, 1), ((2, 3), 4, 4), ((2, 0), 5, 5)])

    def test_one_row(self):
        self.assertEqual(rows(((1,), 3, 3, ())), [((1,), 3, 3)])

    def test_list_is_the_askers_own(self):
        tree = grown(4, 3, 2, (0,), {(0,): 5, (0, 1): 7})
        first = rows(tree)
        same = list(first)
        first.reverse()
        first.pop()
        self.assertEqual(rows(tree), same)
        first.clear()
        self.assertEqual(rows(tree), same)
        self.assertEqual(taken_at(tree, (0, 1)), same[1][2])

    def test_kinds(self):
        for row in rows(grown(4, 3, 2, (0,), {(0,): 5})):
            self.assertIs(type(row), tuple)
            self.assertEqual([type(part) for part in row], [tuple, int, int])


class TestTakenAt(unittest.TestCase):
    def test_every_path_of_the_tree_in_any_order(self):
        for many, rounds, hand, path, notes in samples():
            tree = grown(many, rounds, hand, path, notes)
            told = rows(tree)
            for row in told + told[::-1]:
                self.assertEqual(taken_at(tree, row[0]), row[2])

    def test_paths_that_are_not_in_it(self):
        for many, rounds, hand, path, notes in samples():
            tree = grown(many, rounds, hand, path, notes)
            there = [row[0] for row in rows(tree)]
            for length in range(1, 5):
                for other in itertools.permutations(range(many), length):
                    if other not in there:
                        self.assertIsNone(taken_at(tree, other), (path, other))

    def test_kinds_of_paths_that_are_not_in_it(self):
        tree = grown(5, 3, 4, (2, 0), {(2, 0): 3, (2, 0, 1): 3})
        self.assertEqual(taken_at(tree, (2, 0)), 3)
        self.assertEqual(taken_at(tree, (2, 0, 1)), 3)
        for path in [
            (2, 0, 4), (4,), (2, 0, 1, 3), (2,), (), (0, 2), (3, 0), (3, 0, 1), (2, 1), (2, 1, 0), (2, 0, 0),
            (2, 0, 5), (1,), (2, 0, 1, 3, 4),
        ]:
            self.assertIsNone(taken_at(tree, path), path)

    def test_a_still_word_is_told_as_it_is(self):
        tree = grown(4, 2, 3, (0,), {})
        self.assertEqual(taken_at(tree, (0, 1)), 0)
        self.assertIs(type(taken_at(tree, (0, 1))), int)

    def test_taken_and_not_held(self):
        tree = grown(4, 2, 3, (0,), {(0,): 5, (0, 1): 6, (0, 2): 6})
        self.assertEqual(taken_at(tree, (0,)), 6)


if __name__ == "__main__":
    unittest.main()
