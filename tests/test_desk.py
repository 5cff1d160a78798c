import random
import unittest

from rows import many_kinds_of_lies, some_hands
from things import TOP, assert_refused

from traitorround.desk import Desk
from traitorround.errors import NoCount, NoHand, NoLetter, NoRow, NoWord, RoundError
from traitorround.floods import Floods
from traitorround.kings import Kings
from traitorround.oral import Oral
from traitorround.rings import Ring
from traitorround.roads import lies_of
from traitorround.settings import Setting
from traitorround.signed import Signed
from traitorround.texts import show_path

GOOD_ROWS = [
    "hands 4 1", "liar 2", "lie 2 0.2 1 9", "lie 1 0 1 -", "row oral 0 9", "row kings 0 9 - -7", "oral 0 5",
    "signed 0 5", "kings 0 -5", "crash 0 1 2.3", "crash 1 1 -", "flood 1 2 3 4", "part oral 0 5 6", "part kings 0 5 6",
]

NO_TEXTS = [None, True, 0, 7, [], ["oral", "0", "5"], (), b"oral 0 5", {}, object(), 1.5]


def word_text(word):
    return "-" if word is None else str(word)


def lie_row(lie):
    turn, path, to, word = lie
    return f"lie {turn} {show_path(path)} {to} {word_text(word)}"


def desk_with(*rows):
    desk = Desk()
    for row in rows:
        answer = desk.say(row)
        assert isinstance(answer, str)
    return desk


def desk_for(setting):
    rows = [f"hands {setting.many} {setting.bound}"] + [f"liar {hand}" for hand in setting.liars]
    return desk_with(*rows, *[lie_row(lie) for lie in setting.lies])


def view(desk):
    """What a desk answers to many rows that don't change it, refusals among them."""
    told = []
    for row in [
        "oral 0 5", "signed 0 5", "kings 0 5", "oral 1 6", "signed 2 -6", "kings 3 6", "flood 4", "flood 4 3",
        "flood 4 3 5", "flood 4 3 5 1", "flood 4 3 5 1 7", "part oral 0 5 6", "part kings 1 6 5", "liar 99",
        "lie 0 0 1 5", "crash 0 0 -",
    ]:
        try:
            told.append(desk.say(row))
        except RoundError as refusal:
            told.append((type(refusal), vars(refusal)))
    return told


class TestNewDesk(unittest.TestCase):
    def test_one_hand_and_the_bound_0(self):
        for way in ("oral", "signed", "kings"):
            self.assertEqual(Desk().say(f"{way} 0 5"), "5")
            assert_refused(self, NoHand, 1, Desk().say, f"{way} 1 5")
        self.assertEqual(Desk().say("flood 3"), "3/1")
        assert_refused(self, NoCount, 2, Desk().say, "flood 3 4")
        assert_refused(self, NoHand, 1, Desk().say, "liar 1")
        assert_refused(self, NoLetter, 0, Desk().say, "lie 1 0 1 5")
        assert_refused(self, NoLetter, 0, Desk().say, "crash 1 1 -")
        assert_refused(self, NoCount, 0, Desk().say, "part oral 0 5 6")
        self.assertEqual(Desk().say("row oral 0 5"), "0")

    def test_none_lies_and_none_crashes(self):
        self.assertEqual(desk_with("liar 0").say("oral 0 5"), "?")
        self.assertEqual(desk_with("crash 0 1 -").say("flood 3"), "-")

    def test_two_desks_do_not_touch(self):
        one, other = Desk(), Desk()
        one.say("hands 4 1")
        one.say("liar 2")
        one.say("crash 1 1 -")
        self.assertEqual(other.say("oral 0 5"), "5")
        self.assertEqual(other.say("flood 5"), "5/1")


class TestRowsThatChange(unittest.TestCase):
    def test_hands(self):
        desk = Desk()
        for many in range(1, 8):
            for bound in range(6):
                self.assertEqual(desk.say(f"hands {many} {bound}"), "ok")
                self.assertEqual(desk.say("signed 0 5"), " ".join(["5"] * many))
                self.assertEqual(desk.say("flood " + " ".join(["3"] * many)), " ".join(["3/1"] * many))

    def test_hands_forgets(self):
        rows = ["hands 4 1", "liar 2", "lie 1 2 1 9", "row oral 2 9 9", "crash 0 1 2", "crash 3 2 -"]
        desk = desk_with(*rows)
        self.assertNotEqual(view(desk), view(desk_with("hands 4 1")))
        desk.say("hands 4 1")
        self.assertEqual(view(desk), view(desk_with("hands 4 1")))

    def test_the_bound_is_kept(self):
        # With the bound 0 there is but one round.
        lies = ["liar 0", "lie 1 0 1 9", "lie 1 0 2 8"]
        self.assertEqual(desk_with("hands 4 0", *lies).say("oral 0 5"), "? 9 8 5")
        self.assertEqual(desk_with("hands 4 1", *lies).say("oral 0 5"), "? 5 5 5")
        self.assertEqual(desk_with("hands 3 0", "crash 0 1 1").say("flood 1 5 5"), "- 1/1 5/1")
        self.assertEqual(desk_with("hands 3 1", "crash 0 1 1").say("flood 1 5 5"), "- 1/1 1/2")

    def test_liar(self):
        desk = desk_with("hands 4 1")
        self.assertEqual(desk.say("liar 2"), "ok")
        for way in ("oral", "signed", "kings"):
            self.assertEqual(desk.say(f"{way} 0 5"), "5 5 ? 5")
        self.assertEqual(desk.say("liar 2"), "ok")
        self.assertEqual(desk.say("liar 0"), "ok")
        for way in ("oral", "kings"):
            self.assertEqual(desk.say(f"{way} 0 5"), "? 5 ? 5")
        self.assertEqual(desk.say("signed 0 5"), "? 0 ? 0")

    def test_lie(self):
        desk = desk_with("hands 3 1", "liar 2")
        self.assertEqual(desk.say("lie 2 0.2 1 4"), "ok")
        self.assertEqual(desk.say("oral 0 5"), "5 4 ?")
        # One lie more, behind the others: so the last one holds.
        self.assertEqual(desk.say("lie 2 0.2 1 7"), "ok")
        self.assertEqual(desk.say("oral 0 5"), "5 5 ?")
        self.assertEqual(desk.say("lie 2 0.2 1 -3"), "ok")
        self.assertEqual(desk.say("oral 0 5"), "5 -3 ?")
        self.assertEqual(desk.say("lie 2 0.2 1 -"), "ok")
        self.assertEqual(desk.say("oral 0 5"), "5 0 ?")

    def test_no_letter_is_another_thing_than_the_still_word(self):
        # A letter with the still word would be kept beside the 7, so the hands would end with 0.
        for silent in ("lie 1 0 1 -", "row oral 0 -"):
            self.assertEqual(desk_with("hands 3 1", "liar 0", silent, "lie 1 0 1 7").say("signed 0 5"), "? 7 7")
        for still in ("lie 1 0 1 0", "row oral 0 0"):
            self.assertEqual(desk_with("hands 3 1", "liar 0", still, "lie 1 0 1 7").say("signed 0 5"), "? 0 0")

    def test_a_lie_ahead_of_its_liar(self):
        desk = desk_with("hands 3 1", "lie 2 0.2 1 4")
        self.assertEqual(desk.say("oral 0 5"), "5 5 5")
        desk.say("liar 2")
        self.assertEqual(desk.say("oral 0 5"), "5 4 ?")

    def test_crash(self):
        desk = desk_with("hands 4 2")
        self.assertEqual(desk.say("crash 0 1 2"), "ok")
        self.assertEqual(desk.say("flood 1 5 6 7"), "- 1/2 1/1 1/2")
        self.assertEqual(desk.say("crash 2 2 -"), "ok")
        self.assertEqual(desk.say("flood 1 5 6 7"), "- 5/3 1/1 5/3")
        desk = desk_with("hands 4 2")
        self.assertEqual(desk.say("crash 1 1 0.0.1"), "ok")
        self.assertEqual(desk.say("flood 5 1 6 7"), "1/1 - 1/2 1/2")

    def test_row(self):
        desk = desk_with("hands 4 1", "liar 2")
        # Hand 2 writes in round 2 to the hands 1 and 3.
        self.assertEqual(desk.say("row oral 0 9"), "1")
        self.assertEqual(desk.say("row oral 0 9 -"), "2")
        self.assertEqual(desk.say("row oral 0 9 - 8 8 8"), "2")
        self.assertEqual(desk.say("row oral 2 9 8 7 6"), "3")
        self.assertEqual(desk.say("row kings 0 " + " ".join(["9"] * 50)), "12")
        self.assertEqual(desk_with("hands 4 1").say("row kings 0 9 9"), "0")
        self.assertEqual(desk_with("hands 1 0", "liar 0").say("row oral 0 9 9"), "0")

    def test_row_stands_behind_the_other_lies(self):
        desk = desk_with("hands 3 1", "liar 2", "lie 2 0.2 1 4")
        self.assertEqual(desk.say("row oral 0 3"), "1")
        self.assertEqual(desk.say("oral 0 5"), "5 3 ?")
        self.assertEqual(desk.say("lie 2 0.2 1 4"), "ok")
        self.assertEqual(desk.say("oral 0 5"), "5 4 ?")
        assert_refused(self, NoLetter, 3, desk.say, "lie 2 0.2 2 4")

    def test_row_is_laid_over_the_letters_of_the_way(self):
        chance = random.Random(1)
        for many in range(1, 8):
            for bound in (0, 1, 2):
                for way, make in (("oral", Oral), ("kings", Kings)):
                    liars = chance.sample(range(many), chance.randrange(min(many, 3) + 1))
                    sender = chance.randrange(many)
                    words = chance.choices((0, 5, 9, None, -TOP), k=chance.choice((1, 7, 80)))
                    rows = [f"hands {many} {bound}"] + [f"liar {hand}" for hand in liars]
                    desk = desk_with(*rows)
                    answer = desk.say(f"row {way} {sender} " + " ".join(word_text(word) for word in words))
                    lies = lies_of(make(Setting(many, bound, liars), sender, 77).letters(), liars, words)
                    self.assertEqual(answer, str(len(lies)))
                    self.assertEqual(view(desk), view(desk_for(Setting(many, bound, liars, lies))))


class TestRowsThatPlay(unittest.TestCase):
    def test_written_out(self):
        desk = desk_with("hands 4 1", "liar 2", "lie 2 0.2 1 9", "lie 2 0.2 3 9")
        for way in ("oral", "signed", "kings"):
            self.assertEqual(desk.say(f"{way} 0 5"), "5 5 ? 5")
        self.assertEqual(desk.say(f"oral 3 {-TOP}"), f"{-TOP} {-TOP} ? {-TOP}")
        self.assertEqual(desk.say("kings 1 0"), "0 0 ? 0")

    def test_as_the_modules_tell(self):
        chance = random.Random(5)
        for many in range(1, 8):
            for bound in range(4):
                liars = chance.sample(range(many), chance.randrange(many + 1))
                lies = []
                for make in (Oral, Kings):
                    for turn, path, to, word in make(Setting(many, bound), chance.randrange(many), 5).letters()[::3]:
                        lies.append((turn, path, to, chance.choice((0, 5, 9, None))))
                setting = Setting(many, bound, liars, chance.sample(lies, min(len(lies), 100)))
                desk = desk_for(setting)
                for way, make in (("oral", Oral), ("signed", Signed), ("kings", Kings)):
                    sender = chance.randrange(many)
                    ends = make(setting, sender, 5).endings()
                    shown = ["?" if hand in liars else str(end) for hand, end in enumerate(ends)]
                    self.assertEqual(desk.say(f"{way} {sender} 5"), " ".join(shown))

    def test_flood_as_the_module_tells(self):
        chance = random.Random(6)
        for many in range(1, 8):
            for bound in range(6):
                crashes = [
                    (hand, chance.choice((1, 2, 3, 30)), tuple(chance.choices(range(many), k=chance.randrange(4))))
                    for hand in chance.sample(range(many), chance.randrange(many + 1))
                ]
                desk = desk_with(f"hands {many} {bound}")
                for hand, turn, reached in crashes:
                    self.assertEqual(desk.say(f"crash {hand} {turn} {show_path(reached) or '-'}"), "ok")
                words = chance.choices((3, -4, 0, 8), k=many)
                play = Floods(many, bound, words, crashes)
                ends = [play.ended(hand) for hand in range(many)]
                shown = " ".join("-" if end is None else f"{end[1]}/{end[0]}" for end in ends)
                self.assertEqual(desk.say("flood " + " ".join(str(word) for word in words)), shown)

    def test_part(self):
        for many, bound in [(3, 1), (3, 2), (4, 2), (5, 2), (6, 2)]:
            desk = desk_with(f"hands {many} {bound}")
            for way in ("oral", "kings"):
                for sender in range(many):
                    for one, other in [(5, 6), (0, -1)]:
                        told = Ring(way, many, bound, sender, one, other).parted()
                        answer = desk.say(f"part {way} {sender} {one} {other}")
                        self.assertEqual(answer, " ".join(str(number) for number in told))
        self.assertEqual(desk_with("hands 3 1").say("part oral 0 5 6"), "2 0 2")

    def test_part_hangs_on_hands_and_bound_alone(self):
        plain = desk_with("hands 3 1")
        desk = desk_with("hands 3 1", "liar 2", "lie 2 0.2 1 4", "crash 0 1 -")
        for row in ("part oral 0 5 6", "part kings 2 6 5"):
            self.assertEqual(desk.say(row), plain.say(row))

    def test_lies_do_not_matter_to_a_flood_nor_crashes_to_other_plays(self):
        lying, crashing, both = "liar 0", "crash 0 1 2", ["hands 4 1", "liar 0", "lie 1 0 1 9", "crash 0 1 2"]
        flood = "flood 1 5 6 7"
        self.assertEqual(desk_with(*both).say(flood), desk_with("hands 4 1", crashing).say(flood))
        self.assertEqual(desk_with("hands 4 1", lying, "lie 1 0 1 9").say(flood), "1/1 1/1 1/1 1/1")
        for way in ("oral", "signed", "kings"):
            self.assertEqual(
                desk_with(*both).say(f"{way} 0 5"), desk_with("hands 4 1", lying, "lie 1 0 1 9").say(f"{way} 0 5"),
            )

    def test_plays_change_nothing(self):
        desk = desk_with("hands 4 1", "liar 2", "lie 2 0.2 1 9", "crash 0 1 2")
        first = view(desk)
        for time in range(3):
            self.assertEqual(view(desk), first)


class TestNoRow(unittest.TestCase):
    def refused(self, desk, row):
        assert_refused(self, NoRow, row, desk.say, row)

    def test_no_text(self):
        for thing in NO_TEXTS:
            assert_refused(self, NoRow, thing, Desk().say, thing)

    def test_unknown_words(self):
        for row in [
            "", " ", "-", "?", "ok", "0", "hand 4 1", "Hands 4 1", "HANDS 4 1", "liars 2", "lies 1 0 1 5", "floods 1",
            "king 0 5", "sign 0 5", "crashes 0 1 -", "parts oral 0 5 6", "rows oral 0 5", "help", "orals 0 5", "ora 0 5",
            "\u043eral 0 5",
        ]:
            self.refused(desk_with("hands 4 1"), row)

    def test_blanks(self):
        for row in GOOD_ROWS:
            desk = desk_with("hands 3 1" if "part" in row else "hands 4 1")
            for wrong in [
                " " + row, row + " ", row.replace(" ", "  ", 1), row.replace(" ", "\t", 1), row.replace(" ", "\n", 1),
                row + "\n", row + "\t", "\n" + row, row.replace(" ", "  "), row.replace(" ", "", 1), row + " \n",
                row.replace(" ", "\u00a0", 1), row + "\x00",
            ]:
                self.refused(desk, wrong)
            self.assertIsInstance(desk.say(row), str)

    def test_a_word_lacking(self):
        for row in [
            "hands", "hands 4", "liar", "lie", "lie 1", "lie 1 0", "lie 1 0 1", "row", "row oral", "row oral 0",
            "row kings 0", "oral", "oral 0", "signed", "signed 0", "kings", "kings 0", "crash", "crash 0", "crash 0 1",
            "flood", "part", "part oral", "part oral 0", "part oral 0 5",
        ]:
            self.refused(desk_with("hands 4 1"), row)

    def test_a_word_too_many(self):
        for row in GOOD_ROWS:
            if not row.startswith(("row", "flood")):
                for more in (" 0", " 5", " -", " x"):
                    self.refused(desk_with("hands 4 1"), row + more)

    def test_things_in_anothers_place(self):
        for row in [
            "hands - 1", "hands 4 -", "hands 4.1 1", "hands four 1", "hands 4 1.5", "liar -", "liar 1.2", "liar x",
            "lie - 0 1 5", "lie 1 - 1 5", "lie 1 0 - 5", "lie 1 0 1.2 5", "lie 1.2 0 1 5", "lie 1 0 1 5.6", "lie 1 0 1 ?",
            "lie 1 0, 1 5", "lie 1 (0) 1 5", "lie 1 0..2 1 5", "lie 1 .0 1 5", "lie 1 0. 1 5", "lie 1 00 1 5",
            "row signed 0 5", "row flood 0 5", "row 0 oral 5", "row oral - 5", "row oral 0.1 5", "row oral 0 5.6",
            "row oral 0 5 x", "row oral 0 5 - 6 --", "row Oral 0 5", "row oral 0 5 ?", "row - 0 5",
            "oral - 5", "oral 0 -", "oral 0.1 5", "oral 0 5.6", "oral 0 x", "signed 0 -", "signed x 5", "kings 0 -",
            "kings - 5", "kings 0 5/1",
            "crash - 1 2", "crash 0 - 2", "crash 0 1 --", "crash 0 1 2.", "crash 0 1 -.2", "crash 0 1 ()", "crash 0.1 1 2",
            "crash 0 1 02", "flood - 2 3 4", "flood 1 2 3 -", "flood 1.2 3 4 5", "flood x", "flood 1 2 3 4x",
            "part signed 0 5 6", "part 0 oral 5 6", "part oral - 5 6", "part oral 0 - 6", "part oral 0 5 -",
            "part oral 0 5.6 7", "part flood 0 5 6",
        ]:
            self.refused(desk_with("hands 4 1"), row)

    def test_numbers_that_are_none(self):
        long = "1" * 61
        for wrong in ["-0", "00", "01", "+1", "1_0", long, "-" + long, "\u0661", "1e1", "0x1", "", "--1", "1.", "'1'"]:
            for row in [
                "hands {} 1", "hands 4 {}", "liar {}", "lie {} 0 1 5", "lie 1 {} 1 5", "lie 1 0.{} 1 5", "lie 1 0 {} 5",
                "lie 1 0 1 {}", "row oral {} 5", "row oral 0 {}", "row oral 0 5 {}", "oral {} 5", "oral 0 {}",
                "signed {} 5", "signed 0 {}", "kings {} 5", "kings 0 {}", "crash {} 1 -", "crash 0 {} -",
                "crash 0 1 {}", "crash 0 1 2.{}", "flood {} 2 3 4", "flood 1 2 3 {}", "part oral {} 5 6",
                "part oral 0 {} 6", "part oral 0 5 {}",
            ]:
                self.refused(desk_with("hands 4 1"), row.replace("{}", wrong))

    def test_the_form_is_looked_at_first(self):
        desk = desk_with("hands 4 1")
        for row in [
            "hands 9 x", "liar 9 x", "lie 99 9 9 x", "row oral 9 x", "oral 9 x", "signed 9 x", "kings 9 x",
            "crash 9 99 x", "flood 1 x", "part oral 9 5 x", "hands 9 9 9",
        ]:
            self.refused(desk, row)


class TestRefusedByTheStages(unittest.TestCase):
    def test_hands(self):
        desk = desk_with("hands 4 1")
        for row, thing in [
            ("hands 0 1", 0), ("hands 8 1", 8), ("hands -1 1", -1), ("hands 4 6", 6), ("hands 4 -1", -1),
            ("hands 8 6", 8), ("hands 0 6", 0), (f"hands {TOP} 0", TOP),
        ]:
            assert_refused(self, NoCount, thing, desk.say, row)

    def test_liar(self):
        desk = desk_with("hands 4 1", "liar 3")
        for hand in (4, -1, 99, -TOP):
            assert_refused(self, NoHand, hand, desk.say, f"liar {hand}")

    def test_lie(self):
        wrong = [
            "lie 0 0 1 5", "lie 31 0 1 5", "lie -1 0 1 5", "lie 1 4 1 5", "lie 1 -1 1 5", "lie 1 0.0 1 5",
            "lie 1 0.4 1 5", "lie 1 0 0 5", "lie 1 0.1 0 5", "lie 1 0 4 5", "lie 1 0 -1 -", "lie 1 0.1.2.3.0.1.2.3 1 5",
        ]
        desk = desk_with("hands 4 1", "liar 2")
        for number in range(4):
            for row in wrong:
                assert_refused(self, NoLetter, number, desk.say, row)
            desk.say("lie 1 0 1 5")
        desk.say("row oral 0 5 6")
        assert_refused(self, NoLetter, 6, desk.say, wrong[0])

    def test_row(self):
        desk = desk_with("hands 4 1", "liar 2")
        for way in ("oral", "kings"):
            for sender in (4, -1, 99):
                assert_refused(self, NoHand, sender, desk.say, f"row {way} {sender} 5")

    def test_plays(self):
        desk = desk_with("hands 4 1", "liar 2")
        for way in ("oral", "signed", "kings"):
            for sender in (4, -1, 99):
                assert_refused(self, NoHand, sender, desk.say, f"{way} {sender} 5")

    def test_crash(self):
        desk = desk_with("hands 4 1")
        wrong = ["crash 4 1 -", "crash -1 1 0", "crash 0 0 -", "crash 0 31 -", "crash 0 1 4", "crash 0 1 1.-1"]
        for number in range(3):
            for row in wrong:
                assert_refused(self, NoLetter, number, desk.say, row)
            desk.say(f"crash {number} 1 3")
            assert_refused(self, NoLetter, number + 1, desk.say, f"crash {number} 2 -")

    def test_flood(self):
        desk = desk_with("hands 4 1")
        for number in (1, 2, 3, 5, 9):
            assert_refused(self, NoCount, number, desk.say, "flood" + " 1" * number)

    def test_part(self):
        for many, bound, thing in [(4, 1, 4), (7, 2, 7), (2, 1, 2), (3, 0, 0), (4, 3, 3), (7, 5, 5)]:
            assert_refused(self, NoCount, thing, desk_with(f"hands {many} {bound}").say, "part oral 9 5 5")
        desk = desk_with("hands 4 2")
        for sender in (4, -1):
            assert_refused(self, NoHand, sender, desk.say, f"part kings {sender} 5 5")
        assert_refused(self, NoWord, 5, desk.say, "part kings 3 5 5")

    def test_what_is_refused_changes_nothing(self):
        good = ["hands 4 1", "liar 2", "lie 2 0.2 1 9", "crash 0 1 2", "row kings 0 9 8", "liar 1", "crash 1 2 -"]
        wrong = [
            "hands 8 1", "hands 3 6", "hands 2", "liar 4", "liar 3 3", "lie 31 3 1 9", "lie 1 3 3 9", "lie 1 0 1 x",
            "crash 3 0 -", "crash 3 1 4", "row oral 4 9", "row oral 0 9 x", "oral 9 9", "flood 1", "",
            "part oral 0 5 5",
        ]
        plain, desk = Desk(), Desk()
        for row in good:
            self.assertEqual(plain.say(row), desk.say(row))
            if row.startswith("crash"):
                # From now on a second crash of this hand is refused.
                wrong.append(row)
            for bad in wrong:
                with self.assertRaises(RoundError):
                    desk.say(bad)
            with self.assertRaises(NoRow):
                desk.say(None)
            self.assertEqual(view(plain), view(desk))


class TestPromise(unittest.TestCase):
    def hold(self, desk, way, sender, liars):
        ends = desk.say(f"{way} {sender} 5").split(" ")
        for hand in liars:
            self.assertEqual(ends[hand], "?")
        words = {end for end in ends if end != "?"}
        self.assertEqual(len(words), 1, (way, sender, ends))
        if sender not in liars:
            self.assertEqual(words, {"5"})

    def test_all_three_ways(self):
        for many, bound in [(4, 1), (5, 1), (7, 1), (7, 2), (1, 0), (6, 0)]:
            for liars in list(some_hands(many, bound))[::2]:
                sender = liars[0] if liars and sum(liars) % 2 else many - 1
                for way, make in (("oral", Oral), ("kings", Kings)):
                    letters = make(Setting(many, bound), sender, 5).letters()
                    for lies in many_kinds_of_lies(letters, liars, [0, 5, 9, None], 3, many):
                        desk = desk_with(f"hands {many} {bound}", *[f"liar {hand}" for hand in liars])
                        words = [word_text(lie[3]) for lie in lies[:60]]
                        if words:
                            desk.say(f"row {way} {sender} " + " ".join(words))
                        for lie in lies[60:80]:
                            desk.say(lie_row(lie))
                        for played in ("oral", "signed", "kings"):
                            self.hold(desk, played, sender, liars)

    def test_signed_with_any_number_of_hands(self):
        chance = random.Random(7)
        for many, bound in [(2, 1), (3, 1), (3, 2), (4, 3), (5, 4), (7, 5), (6, 2)]:
            for liars in list(some_hands(many, min(bound, many - 1)))[::3]:
                sender = chance.choice(liars + [0])
                desk = desk_with(f"hands {many} {bound}", *[f"liar {hand}" for hand in liars])
                for time in range(25):
                    chain = [hand for hand in liars if hand != sender]
                    chance.shuffle(chain)
                    path = tuple([sender] + chain)[:chance.randrange(1, len(chain) + 2)]
                    readers = [hand for hand in range(many) if hand not in path]
                    lie = (len(path), path, chance.choice(readers), chance.choice((5, 7, 0, None)))
                    self.assertEqual(desk.say(lie_row(lie)), "ok")
                self.hold(desk, "signed", sender, liars)

    def test_floods(self):
        chance = random.Random(8)
        for many in range(1, 8):
            for bound in range(6):
                desk = desk_with(f"hands {many} {bound}")
                crashing = chance.sample(range(many), min(many, bound))
                for hand in crashing:
                    reached = chance.sample(range(many), chance.randrange(min(many, 2) + 1))
                    desk.say(f"crash {hand} {chance.randrange(1, bound + 2)} {show_path(reached) or '-'}")
                words = [str(word) for word in chance.choices((3, -4, 0, 8), k=many)]
                ends = desk.say("flood " + " ".join(words)).split(" ")
                there = [end.split("/") for hand, end in enumerate(ends) if hand not in crashing]
                self.assertLessEqual(len({word for word, turn in there}), 1)
                for word, turn in there:
                    self.assertIn(word, words)
                    self.assertLessEqual(int(turn), len(crashing) + 1)

    def test_parts_put_to_a_desk(self):
        for many, bound in [(3, 1), (3, 2), (4, 2), (5, 2), (6, 2)]:
            for way in ("oral", "kings"):
                for sender in range(many):
                    one, other = 7, -2 * sender
                    told = desk_with(f"hands {many} {bound}").say(f"part {way} {sender} {one} {other}")
                    play, hand, unlike = [int(number) for number in told.split(" ")]
                    ring = Ring(way, many, bound, sender, one, other)
                    desk = desk_for(ring.setting_of(play))
                    ends = desk.say(f"{way} {sender} {ring.word_in(play)}").split(" ")
                    self.assertNotEqual(ends[hand], ends[unlike])
                    self.assertNotIn("?", (ends[hand], ends[unlike]))
                    self.assertLessEqual(ends.count("?"), bound)


if __name__ == "__main__":
    unittest.main()
