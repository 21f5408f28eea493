"""The refusals: each stands under VoteError, and none of the four under another."""


class VoteError(ValueError):
    pass


class BadSettings(VoteError):
    pass


class BadStep(VoteError):
    pass


class NoSensor(VoteError):
    pass


class BadRow(VoteError):
    pass
