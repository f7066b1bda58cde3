"""The refusals of Likenest: NestError of what is none, AbsentError of what isn't there."""


class NestError(ValueError):
    """What is handed in isn't what is wanted there."""


class NoSigns(NestError):
    """These are no signs."""


class NoPlace(NestError):
    """This is no place of the term."""


class NoGivens(NestError):
    """These are no givens."""


class NoUnlikes(NestError):
    """These are no unlikes."""


class NoLines(NestError):
    """These are no lines."""


class NoModel(NestError):
    """This is no model."""


class NoPattern(NestError):
    """This is no pattern."""


class NoRules(NestError):
    """These are no rules."""


class NoRounds(NestError):
    """This is no number of rounds, or of terms that rounds may know."""


class NoCosts(NestError):
    """These are no costs."""


class NoLine(NestError):
    """This is no line that a desk is told."""


class NoTerm(NestError):
    """This is no term; at is its place among the terms that the call hands in."""

    def __init__(self, at=0):
        super().__init__(f"no term at place {at}")
        self.at = at


class TooMany(NestError):
    """There would be many where at most most may be."""

    def __init__(self, many, most):
        super().__init__(f"{many} would be more than {most}")
        self.many = many
        self.most = most


class NoText(NestError):
    """This is no such text; row is that of the first line that is none, 0 of what is no text."""

    def __init__(self, row=0):
        super().__init__(f"no such text at row {row}")
        self.row = row


class AbsentError(LookupError):
    """What is asked for isn't there."""


class NoLevel(AbsentError):
    """So many levels can't be taken back; left is how many stand."""

    def __init__(self, left=0):
        super().__init__(f"{left} levels stand")
        self.left = left


class NotKnown(AbsentError):
    """The term isn't known."""

    def __init__(self, term):
        super().__init__(f"not known: {term}")
        self.term = term


class NotAlike(AbsentError):
    """The two terms aren't alike."""

    def __init__(self, one, other):
        super().__init__(f"not alike: {one} and {other}")
        self.one = one
        self.other = other
