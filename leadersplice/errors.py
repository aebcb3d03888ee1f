"""The refusals: one class for each, all of them under SpliceError.

Those with fields have no words of their own: Python keeps what an error was
made with and shows it behind the class's name, which says as much.
"""


class SpliceError(ValueError):
    pass


class NoKey(SpliceError):
    pass


class NoReel(SpliceError):
    def __init__(self, number):
        self.number = number


class NoFrame(SpliceError):
    def __init__(self, reel, frame):
        self.reel = reel
        self.frame = frame


class NoName(SpliceError):
    def __init__(self, name):
        self.name = name


class NoList(SpliceError):
    def __init__(self, word):
        self.word = word


class NoFade(SpliceError):
    pass


class TooMany(SpliceError):
    pass


class TooShort(SpliceError):
    def __init__(self, number):
        self.number = number


class NoPlace(SpliceError):
    pass


class NoRow(SpliceError):
    pass
