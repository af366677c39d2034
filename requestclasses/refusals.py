"""The refusals of the calls, each with the number that is answered."""


class Refusal(Exception):
    """What all refusals have: the number."""

    def __init__(self, number):
        self.number = number


class Malformed(Refusal):
    """A text is none of the kind that is asked for."""

    def __init__(self):
        Refusal.__init__(self, -1)


class NoSuchPattern(Refusal):
    """A number is not that of a pattern."""

    def __init__(self):
        Refusal.__init__(self, -2)


class NoSuchRepresentative(Refusal):
    """A number is not that of a representative."""

    def __init__(self):
        Refusal.__init__(self, -2)


class NotInDirectory(Refusal):
    """A text is no user's, or no group's, of the directory."""

    def __init__(self):
        Refusal.__init__(self, -3)


class TooMuchToldApart(Refusal):
    """More flags would be told apart than may be."""

    def __init__(self):
        Refusal.__init__(self, -5)


class TooManyPatterns(Refusal):
    """There are as many patterns as there may be."""

    def __init__(self):
        Refusal.__init__(self, -6)


class TooManyRepresentatives(Refusal):
    """There are more representatives than are numbered."""

    def __init__(self):
        Refusal.__init__(self, -7)


def require_form(holds):
    """Refuse the text that is being read, unless what is asked of it holds."""
    if not holds:
        raise Malformed()
