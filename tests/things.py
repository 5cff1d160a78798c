"""What several test files need: things of wrong kinds, and how a refusal is looked at."""

# The greatest word, and the one beside it, which differ in the last figure alone.
TOP = 10 ** 60 - 1
NEAR = 10 ** 60 - 2


class Alike:
    """Claims to be equal to everything, and to be a number."""

    def __eq__(self, other):
        return True

    def __int__(self):
        return 1

    def __index__(self):
        return 1

    def __hash__(self):
        return 1


def no_wholes():
    return [
        True, False, None, "", "0", "1", "seven", [], [1], (), (0,), (1, 2), {}, {0: 1}, 0.0, 1.0, b"1", {1}, object(),
        int, Alike(),
    ]


def assert_refused(case, refusal, thing, call, *args):
    """The call is refused with just this class, and its one field is the very thing."""
    with case.assertRaises(refusal) as taken:
        call(*args)
    case.assertIs(type(taken.exception), refusal)
    fields = vars(taken.exception)
    case.assertEqual(len(fields), 1)
    told = list(fields.values())[0]
    case.assertIs(type(told), type(thing))
    if isinstance(thing, (int, str)):
        case.assertEqual(told, thing)
    else:
        case.assertIs(told, thing)
