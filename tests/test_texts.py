import itertools
import unittest

from things import NEAR, TOP, assert_refused

from traitorround.errors import NoRow
from traitorround.texts import read_path, read_word, show_path

NO_TEXTS = [None, True, False, 0, 1, -7, TOP, 1.0, b"1", [], ["1"], (), ("1",), (1,), {}, {"1": 1}, object(), str]

NO_NUMBERS = [
    "", "-", "--1", "-0", "00", "01", "-01", "-00", "007", "+1", "+0", " 1", "1 ", " ", "1 2", "1_0", "_1", "1_", "1-",
    "1-2", "0x1", "0b1", "1e3", "1.0", "1,0", "a", "one", "1a", "a1", "x", "1x", "x1", "12x3", "\n", "1\n", "\n1", "1\n2", "\t1", "1\t", "1\r",
    "1\x00", "\x001", "1" * 61, "-" + "1" * 61, "9" * 61, "1" + "0" * 60, "0" * 60, "1" * 4000,
    "\u0661", "1\u0661", "\uff11", "\u00b2", "\u2460", "\u0967", "\u22121", "\u20131", "\u00a01", "1\u00a0", "\u200b1",
    "?", "/", ":", "'1'", "None", "True",
]


class TestReadWord(unittest.TestCase):
    def test_numbers(self):
        for number in [0, 1, -1, 7, 9, 10, -10, 99, 100, 12345678901234567890, 10 ** 59, -10 ** 59, NEAR, -NEAR, TOP, -TOP]:
            told = read_word(str(number))
            self.assertEqual(told, number)
            self.assertIs(type(told), int)

    def test_sixty_figures(self):
        self.assertEqual(read_word("1" * 60), int("1" * 60))
        self.assertEqual(read_word("-" + "9" * 60), -TOP)
        assert_refused(self, NoRow, "1" * 61, read_word, "1" * 61)
        assert_refused(self, NoRow, "-" + "1" * 61, read_word, "-" + "1" * 61)

    def test_what_is_not_written_so(self):
        for text in NO_NUMBERS:
            assert_refused(self, NoRow, text, read_word, text)

    def test_what_is_no_text(self):
        for thing in NO_TEXTS:
            assert_refused(self, NoRow, thing, read_word, thing)

    def test_all_short_texts(self):
        for length in range(1, 5):
            for signs in itertools.product("-019+ ._", repeat=length):
                text = "".join(signs)
                # A number is written just as Python shows it.
                try:
                    written = str(int(text)) == text
                except ValueError:
                    written = False
                if written:
                    self.assertEqual(read_word(text), int(text))
                else:
                    assert_refused(self, NoRow, text, read_word, text)


class TestReadPath(unittest.TestCase):
    def test_one_number(self):
        for number in (0, 5, -3, TOP, -TOP):
            told = read_path(str(number))
            self.assertEqual(told, (number,))
            self.assertIs(type(told), tuple)

    def test_several_numbers(self):
        self.assertEqual(read_path("0.3.5"), (0, 3, 5))
        self.assertEqual(read_path("5.3.0"), (5, 3, 0))
        self.assertEqual(read_path("-1.0.-20"), (-1, 0, -20))
        self.assertEqual(read_path("10.2"), (10, 2))

    def test_nothing_asks_whether_hands_are_alike_or_there(self):
        self.assertEqual(read_path("3.3.3"), (3, 3, 3))
        self.assertEqual(read_path("99.0.99"), (99, 0, 99))
        self.assertEqual(read_path(".".join(["1"] * 50)), (1,) * 50)

    def test_what_is_not_written_so(self):
        for text in [
            ".", "..", "1.", ".1", "1..2", "1.02", "1,2", "1.-", "1.-0", "-.1", "1. 2", "1 .2", "1.2 ", " 1.2", "1.2\n",
            "1.+2", "1-2", "1.a", "1." + "1" * 61, "1\u00b72", "1.\u0662", "1/2", "(1, 2)", "1.2.", ".1.2",
        ]:
            assert_refused(self, NoRow, text, read_path, text)
        for text in NO_NUMBERS:
            if text != "1.0":
                assert_refused(self, NoRow, text, read_path, text)

    def test_what_is_no_text(self):
        for thing in NO_TEXTS:
            assert_refused(self, NoRow, thing, read_path, thing)


class TestShowPath(unittest.TestCase):
    def test_what_read_path_reads_again(self):
        for path in [(0,), (0, 3, 5), (5, 3, 0), (-1, 0, -20), (3, 3), (TOP, -TOP), tuple(range(7)), (10, 2)]:
            told = show_path(path)
            self.assertIs(type(told), str)
            self.assertEqual(read_path(told), path)

    def test_written_out(self):
        self.assertEqual(show_path((0, 3, 5)), "0.3.5")
        self.assertEqual(show_path((6,)), "6")
        self.assertEqual(show_path((-1, 10)), "-1.10")

    def test_path_stays(self):
        path = (0, 3)
        show_path(path)
        self.assertEqual(path, (0, 3))


if __name__ == "__main__":
    unittest.main()
