"""The refusals. Their words never show the thing refused: it may be of any kind, and of any length."""


class RoundError(ValueError):
    pass


class NoCount(RoundError):
    def __init__(self, told):
        RoundError.__init__(self, "not a whole number within the bounds")
        self.told = told


class NoHand(RoundError):
    def __init__(self, hand):
        RoundError.__init__(self, "not one of the hands")
        self.hand = hand


class NoWord(RoundError):
    def __init__(self, word):
        RoundError.__init__(self, "not a word that can stand here")
        self.word = word


class NoLetter(RoundError):
    def __init__(self, place):
        RoundError.__init__(self, "not a lie or crash among these hands")
        self.place = place


class NoWay(RoundError):
    def __init__(self, way):
        RoundError.__init__(self, "not a way that is played here")
        self.way = way


class NoRow(RoundError):
    def __init__(self, row):
        RoundError.__init__(self, "not written as a row is")
        self.row = row
