"""The refusals of the program."""


class VoteError(ValueError):
    pass


class NoSign(VoteError):
    pass


class Twice(VoteError):
    pass
