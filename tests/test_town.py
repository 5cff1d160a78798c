import copy
import unittest

from things import TOP

from traitorround.hands import Crasher, Hand, Liar, Scribe
from traitorround.town import heard, run


class Witness(Hand):
    """Writes down, in a diary that it shares with others, all that it is asked and told."""

    def __init__(self, number, diary, lines):
        Hand.__init__(self, number, 4, 9)
        self.diary = diary
        self.lines = lines

    def say(self, turn):
        self.diary.append(("say", turn, self.number))
        return [line[1:] for line in self.lines if line[0] == turn]

    def hear(self, turn, letters):
        self.diary.append(("hear", turn, self.number, list(letters)))
        letters.clear()


def scribes(*lines):
    return [Scribe(number, len(lines), 9, its) for number, its in enumerate(lines)]


class TestRun(unittest.TestCase):
    def test_no_rounds(self):
        hands = scribes([(1, (0,), 1, 5)], [(1, (1,), 0, 6)])
        self.assertEqual(run(hands, 0), [])
        self.assertEqual(run(hands, 0, [[0, 1], [0, 1]]), [])
        self.assertEqual([hand.came() for hand in hands], [[], []])

    def test_no_letters_and_no_hands(self):
        self.assertEqual(run([Hand(0, 1, 3)], 3), [])
        self.assertEqual(run([], 3), [])

    def test_letters(self):
        hands = scribes(
            [(2, (0, 1), 1, 5), (1, (0,), 1, 6)],
            [(1, (1,), 0, None), (1, (0, 1), 0, -TOP), (3, (1,), 0, 9)],
        )
        told = run(hands, 2)
        self.assertIs(type(told), list)
        self.assertEqual(told, [(1, (0,), 1, 6), (1, (0, 1), 0, -TOP), (1, (1,), 0, None), (2, (0, 1), 1, 5)])
        for letter in told:
            self.assertIs(type(letter), tuple)
        self.assertEqual(hands[0].came(), [(1, (0, 1), -TOP), (1, (1,), None)])
        self.assertEqual(hands[1].came(), [(1, (0,), 6), (2, (0, 1), 5)])

    def test_sorted_by_round_then_path_then_place(self):
        lines = [
            (turn, path, to, 100 * turn + 10 * len(path) + to)
            for turn in (3, 1, 2) for path in [(2,), (0, 3), (10,), (0,), (2, 0), (0, 10)] for to in (3, 0, 2, 1)
        ]
        shares = [lines[k::4] for k in range(4)]
        told = run(scribes(*shares), 3)
        self.assertEqual(told, sorted(lines, key=lambda line: line[:3]))
        self.assertEqual(run(scribes(*shares[::-1]), 3), told)
        self.assertEqual(run(scribes(*[share[::-1] for share in shares]), 3), told)

    def test_words_do_not_matter_to_the_order(self):
        hands = scribes([(1, (0,), 1, None), (1, (0,), 0, (3, 4)), (1, (1,), 1, 5)], [(1, (0, 1), 1, ())])
        self.assertEqual(
            run(hands, 1), [(1, (0,), 0, (3, 4)), (1, (0,), 1, None), (1, (0, 1), 1, ()), (1, (1,), 1, 5)],
        )

    def test_every_hand_is_told_a_list_in_every_round_sorted_by_path(self):
        diary = []
        hands = [
            Witness(0, diary, [(2, (3,), 1, 7), (2, (0,), 1, 8)]),
            Witness(1, diary, [(2, (1,), 1, None), (2, (0, 2), 1, 9)]),
            Witness(2, diary, []),
        ]
        run(hands, 3)
        self.assertEqual([row for row in diary if row[0] == "hear"], [
            ("hear", 1, 0, []), ("hear", 1, 1, []), ("hear", 1, 2, []),
            ("hear", 2, 0, []), ("hear", 2, 1, [((0,), 8), ((0, 2), 9), ((1,), None), ((3,), 7)]), ("hear", 2, 2, []),
            ("hear", 3, 0, []), ("hear", 3, 1, []), ("hear", 3, 2, []),
        ])

    def test_all_say_ahead_of_any_hearing(self):
        diary = []
        run([Witness(number, diary, [(1, (number,), 0, 1)]) for number in range(3)], 2)
        self.assertEqual([row[:3] for row in diary], [
            ("say", 1, 0), ("say", 1, 1), ("say", 1, 2), ("hear", 1, 0), ("hear", 1, 1), ("hear", 1, 2),
            ("say", 2, 0), ("say", 2, 1), ("say", 2, 2), ("hear", 2, 0), ("hear", 2, 1), ("hear", 2, 2),
        ])

    def test_what_a_hand_does_to_its_list_changes_no_answer(self):
        diary = []
        told = run([Witness(0, diary, []), Witness(1, diary, [(1, (1,), 0, 4), (2, (1,), 0, 5)])], 2)
        self.assertEqual(told, [(1, (1,), 0, 4), (2, (1,), 0, 5)])

    def test_wires_to_each_place_itself(self):
        lines = [[(1, (0,), 1, 5), (1, (0,), 2, 6)], [(2, (1,), 2, None)], [(1, (2,), 0, 7)]]
        plain, wired = scribes(*lines), scribes(*lines)
        self.assertEqual(run(plain, 2), run(wired, 2, [[0, 1, 2]] * 3))
        self.assertEqual([hand.came() for hand in plain], [hand.came() for hand in wired])
        named = scribes(*lines)
        self.assertEqual(run(named, 2, None), [(1, (0,), 1, 5), (1, (0,), 2, 6), (1, (2,), 0, 7), (2, (1,), 2, None)])

    def test_wires_turned_round(self):
        hands = scribes([(1, (0,), 1, 5), (1, (0,), 2, 6)], [(1, (1,), 0, 7)], [(1, (2,), 0, 8)])
        told = run(hands, 1, [[0, 2, 1], [2, 1, 0], [1, 0, 2]])
        self.assertEqual(told, [(1, (0,), 1, 6), (1, (0,), 2, 5), (1, (1,), 2, 7), (1, (2,), 1, 8)])
        self.assertEqual([hand.came() for hand in hands], [
            [], [(1, (0,), 6), (1, (2,), 8)], [(1, (0,), 5), (1, (1,), 7)],
        ])

    def test_wires_across_two_copies(self):
        copies = [Scribe(k % 3, 3, 9, [(1, (k % 3,), to, 10 * k + to) for to in range(3) if to != k % 3])
                  for k in range(6)]
        # Hands 1 and 2 write to one another across the copies, all else stays within its copy.
        wires = [[0, 1, 2], [0, 1, 5], [0, 4, 2], [3, 4, 5], [3, 4, 2], [3, 1, 5]]
        before = copy.deepcopy(wires)
        told = run(copies, 1, wires)
        self.assertEqual(wires, before)
        self.assertEqual(told, [
            (1, (0,), 1, 1), (1, (0,), 2, 2), (1, (0,), 4, 31), (1, (0,), 5, 32),
            (1, (1,), 0, 10), (1, (1,), 2, 42), (1, (1,), 3, 40), (1, (1,), 5, 12),
            (1, (2,), 0, 20), (1, (2,), 1, 51), (1, (2,), 3, 50), (1, (2,), 4, 21),
        ])
        self.assertEqual(copies[1].came(), [(1, (0,), 1), (1, (2,), 51)])
        self.assertEqual(copies[5].came(), [(1, (0,), 32), (1, (1,), 12)])

    def test_liars_and_crashers_in_town(self):
        lines = [(1, (0,), 1, 5), (1, (0,), 2, 5), (2, (0,), 1, 6), (2, (0,), 2, 6)]
        hands = [Liar(Scribe(0, 3, 2, lines), [(1, (0,), 2, 9)]), Scribe(1, 3, 2, []), Scribe(2, 3, 2, [])]
        self.assertEqual(run(hands, 2), [(1, (0,), 1, 5), (1, (0,), 2, 9), (2, (0,), 1, 6), (2, (0,), 2, 6)])
        hands = [Crasher(Scribe(0, 3, 2, lines), 1, (2,)), Scribe(1, 3, 2, []), Scribe(2, 3, 2, [])]
        self.assertEqual(run(hands, 2), [
            (1, (0,), 1, None), (1, (0,), 2, 5), (2, (0,), 1, None), (2, (0,), 2, None),
        ])
        self.assertEqual(hands[1].came(), [(1, (0,), None), (2, (0,), None)])

    def test_lists_stay(self):
        hands = scribes([(1, (0,), 1, 5)], [])
        same = list(hands)
        wires = [[0, 1], [0, 1]]
        run(hands, 1, wires)
        self.assertEqual(hands, same)
        self.assertEqual(wires, [[0, 1], [0, 1]])

    def test_list_is_the_askers_own(self):
        hands = scribes([(1, (0,), 1, 5)], [])
        run(hands, 1).clear()
        self.assertEqual(hands[1].came(), [(1, (0,), 5)])
        self.assertEqual(run(hands, 1), [(1, (0,), 1, 5)])


class TestHeard(unittest.TestCase):
    LETTERS = [
        (1, (0,), 1, 5), (1, (0,), 12, 6), (1, (2,), 1, None), (2, (0,), 1, 7), (1, (0,), 1, 5), (2, (0, 2), 2, 1),
        (1, (3,), 1, (4, 5)),
    ]

    def test_letters_to_the_place_in_their_order(self):
        self.assertEqual(heard(self.LETTERS, 1), [
            (1, (0,), 5), (1, (2,), None), (2, (0,), 7), (1, (0,), 5), (1, (3,), (4, 5)),
        ])
        self.assertEqual(heard(self.LETTERS[::-1], 1), [
            (1, (3,), (4, 5)), (1, (0,), 5), (2, (0,), 7), (1, (2,), None), (1, (0,), 5),
        ])
        self.assertEqual(heard(self.LETTERS, 12), [(1, (0,), 6)])
        self.assertEqual(heard(self.LETTERS, 2), [(2, (0, 2), 1)])

    def test_none(self):
        for letters, place in [(self.LETTERS, 0), (self.LETTERS, 7), ([], 0)]:
            self.assertEqual(heard(letters, place), [])
            self.assertIs(type(heard(letters, place)), list)

    def test_as_the_hands_heard(self):
        lines = [[(turn, (k,), to, turn * k) for turn in (1, 2) for to in range(3) if to != k] for k in range(3)]
        hands = scribes(*lines)
        letters = run(hands, 2)
        for place, hand in enumerate(hands):
            self.assertEqual(heard(letters, place), hand.came())

    def test_list_stays_and_is_the_askers_own(self):
        letters = list(self.LETTERS)
        told = heard(letters, 1)
        self.assertEqual(letters, self.LETTERS)
        told.clear()
        self.assertEqual(len(heard(letters, 1)), 5)
        told = heard(letters, 12)
        letters.clear()
        self.assertEqual(told, [(1, (0,), 6)])


if __name__ == "__main__":
    unittest.main()
