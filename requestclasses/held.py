"""What the object of a list of calls holds: a directory and patterns."""

from requestclasses.apart import ToldApart, flags_told_apart
from requestclasses.directories import directory_from_text
from requestclasses.refusals import NoSuchPattern, TooManyPatterns, TooMuchToldApart

FIRST_DIRECTORY = "user a\n"
MOST_PATTERNS = 20
MOST_FLAGS = 16


class Held:
    """The directory and the patterns, as they are between two calls."""

    def __init__(self):
        self.directory = directory_from_text(FIRST_DIRECTORY)
        self.patterns = []

    def pattern_at(self, k):
        """The pattern with the number k."""
        if not 0 <= k < len(self.patterns):
            raise NoSuchPattern()
        return self.patterns[k]

    def add_pattern(self, pattern):
        """Put a pattern behind the others."""
        if len(self.patterns) >= MOST_PATTERNS:
            raise TooManyPatterns()
        if len(flags_told_apart(self.patterns + [pattern])) > MOST_FLAGS:
            raise TooMuchToldApart()
        self.patterns.append(pattern)

    def drop_pattern(self, k):
        """Take away the pattern with the number k."""
        # Python takes the last ones for negative numbers: those are refused here.
        self.pattern_at(k)
        self.patterns.pop(k)

    def told_apart(self):
        """What the directory and the patterns tell apart now."""
        return ToldApart(self.directory, self.patterns)
