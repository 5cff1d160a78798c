"""The desk: told rows of text, it keeps a setting and crashes, and answers with the plays' endings."""

from traitorround.errors import NoRow
from traitorround.floods import Floods, crashes_of
from traitorround.rings import WAYS, Ring, play_of
from traitorround.roads import lies_of
from traitorround.settings import Setting
from traitorround.signed import Signed
from traitorround.texts import read_path, read_word
from traitorround.words import STILL

FORMS = {
    "hands": ("number", "number"),
    "liar": ("number",),
    "lie": ("number", "path", "number", "word"),
    "row": ("way", "number", "word"),
    "oral": ("number", "number"),
    "signed": ("number", "number"),
    "kings": ("number", "number"),
    "crash": ("number", "number", "reached"),
    "flood": ("number",),
    "part": ("way", "number", "number", "number"),
}

# In these rows the last thing may stand more than once.
LONG_FORMS = ("row", "flood")


class Desk:
    def __init__(self):
        self.setting = Setting(1, 0)
        self.crashes = []

    def say(self, row):
        verb = verb_of(row)
        things = things_of(row)
        if verb == "hands":
            return self.begin(things[0], things[1])
        if verb == "liar":
            return self.add_liar(things[0])
        if verb == "lie":
            return self.add_lie(tuple(things))
        if verb == "row":
            return self.add_row(things[0], things[1], things[2:])
        if verb == "crash":
            return self.add_crash(tuple(things))
        if verb == "flood":
            return self.flood_ends(things)
        if verb == "part":
            return self.parted_by(things[0], things[1], things[2], things[3])
        return self.play_ends(verb, things[0], things[1])

    def begin(self, many, bound):
        self.setting = Setting(many, bound)
        self.crashes = []
        return "ok"

    def add_liar(self, hand):
        now = self.setting
        self.setting = Setting(now.many, now.bound, now.liars + (hand,), now.lies)
        return "ok"

    def add_lie(self, lie):
        self.add_lies((lie,))
        return "ok"

    def add_lies(self, lies):
        now = self.setting
        self.setting = Setting(now.many, now.bound, now.liars, now.lies + lies)

    def add_row(self, way, sender, words):
        # The order of the letters doesn't hang on the sender's word.
        letters = play_of(way, self.setting, sender, STILL).letters()
        lies = lies_of(letters, self.setting.liars, words)
        self.add_lies(tuple(lies))
        return str(len(lies))

    def add_crash(self, crash):
        self.crashes = crashes_of(self.setting.many, self.crashes + [crash])
        return "ok"

    def play_ends(self, way, sender, word):
        now = self.setting
        play = Signed(now, sender, word) if way == "signed" else play_of(way, now, sender, word)
        ends = play.endings()
        return " ".join(["?" if hand in now.liars else str(end) for hand, end in enumerate(ends)])

    def flood_ends(self, words):
        now = self.setting
        flood = Floods(now.many, now.bound, words, self.crashes)
        return " ".join([show_end(flood.ended(hand)) for hand in range(now.many)])

    def parted_by(self, way, sender, one, other):
        ring = Ring(way, self.setting.many, self.setting.bound, sender, one, other)
        return " ".join([str(number) for number in ring.parted()])


def show_end(end):
    if end is None:
        return "-"
    turn = end[0]
    word = end[1]
    return f"{word}/{turn}"


def verb_of(row):
    if not isinstance(row, str):
        raise NoRow(row)
    verb = row.split(" ")[0]
    if verb not in FORMS:
        raise NoRow(row)
    return verb


def things_of(row):
    parts = row.split(" ")
    kinds = kinds_for(parts[0], len(parts) - 1)
    if len(kinds) != len(parts) - 1:
        raise NoRow(row)
    try:
        return [read_thing(kind, part) for kind, part in zip(kinds, parts[1:])]
    except NoRow:
        # Refused is the whole row, not the part of it that can't be read.
        raise NoRow(row) from None


def kinds_for(verb, number):
    kinds = FORMS[verb]
    if verb in LONG_FORMS:
        return kinds + kinds[-1:] * (number - len(kinds))
    return kinds


def read_thing(kind, part):
    if kind == "path":
        return read_path(part)
    if kind == "reached":
        return () if part == "-" else read_path(part)
    if kind == "word":
        return None if part == "-" else read_word(part)
    if kind == "way":
        return read_way(part)
    return read_word(part)


def read_way(part):
    if part not in WAYS:
        raise NoRow(part)
    return part
