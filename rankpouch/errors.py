"""The refusals. Each stands right under RankError, so that taking one by name never takes another."""


class RankError(ValueError):
    pass


class NoRow(RankError):
    def __init__(self, at):
        RankError.__init__(self, f"run {at} does not belong in a row")
        self.at = at


class NoPlace(RankError):
    pass


class NoPouch(RankError):
    def __init__(self, at):
        RankError.__init__(self, f"the data pouch has no good form, seen at entry {at}")
        self.at = at


class NoSize(RankError):
    pass


class Wrong(RankError):
    def __init__(self, at):
        RankError.__init__(self, f"the row has no place for entry {at}")
        self.at = at


class NoTimes(RankError):
    pass


class Unlike(RankError):
    pass


class NoText(RankError):
    def __init__(self, row):
        RankError.__init__(self, f"row {row} of the text can't be read")
        self.row = row
