import unittest

from traitorround.errors import NoCount, NoHand, NoLetter, NoRow, NoWay, NoWord, RoundError

FIELDS = [
    (NoCount, "told"),
    (NoHand, "hand"),
    (NoWord, "word"),
    (NoLetter, "place"),
    (NoWay, "way"),
    (NoRow, "row"),
]


class Unshowable:
    def __repr__(self):
        raise RuntimeError("not to be shown")

    __str__ = __repr__

    def __eq__(self, other):
        raise RuntimeError("not to be compared")

    __hash__ = None


def things():
    return [
        0, 1, -1, 7, 10 ** 60, -10 ** 60, 10 ** 3999, 10 ** 5000, True, False, None, "", "7", "%s %d", "a row\n",
        [], [1, [2]], (), (1,), (1, 2), ({},), {}, {1: 2}, 1.5, b"7", {1, 2}, object(), int, Unshowable(),
    ]


class TestErrors(unittest.TestCase):
    def test_field_is_the_thing_refused(self):
        for refusal, field in FIELDS:
            for thing in things():
                self.assertIs(getattr(refusal(thing), field), thing, refusal)

    def test_field_when_raised_and_taken(self):
        for refusal, field in FIELDS:
            for thing in things():
                with self.assertRaises(RoundError) as taken:
                    raise refusal(thing)
                self.assertIs(getattr(taken.exception, field), thing, refusal)

    def test_thing_refused_stays_as_it_was(self):
        for refusal, field in FIELDS:
            for thing, same in [([1, None, [2]], [1, None, [2]]), ({1: [2]}, {1: [2]})]:
                refusal(thing)
                self.assertEqual(thing, same)

    def test_two_refusals_keep_their_own_things(self):
        for refusal, field in FIELDS:
            one, other = refusal(1), refusal(2)
            self.assertEqual((getattr(one, field), getattr(other, field)), (1, 2))

    def test_words_of_a_refusal_are_a_text(self):
        for refusal, field in FIELDS:
            for thing in things():
                self.assertIsInstance(str(refusal(thing)), str)

    def test_all_are_round_errors_and_value_errors(self):
        self.assertTrue(issubclass(RoundError, ValueError))
        for refusal, field in FIELDS:
            self.assertTrue(issubclass(refusal, RoundError), refusal)
            self.assertTrue(issubclass(refusal, ValueError), refusal)
            with self.assertRaises(ValueError):
                raise refusal(None)

    def test_none_is_another_one(self):
        for one, field in FIELDS:
            for other, field_of_other in FIELDS:
                self.assertEqual(issubclass(one, other), field == field_of_other, (one, other))
            self.assertFalse(issubclass(RoundError, one), one)

    def test_argument_bears_the_name_of_the_field(self):
        for refusal, field in FIELDS:
            self.assertEqual(getattr(refusal(**{field: 5}), field), 5)
            with self.assertRaises(TypeError):
                refusal()


if __name__ == "__main__":
    unittest.main()
