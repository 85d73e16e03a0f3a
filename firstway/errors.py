"""All errors of the package."""


class FirstwayError(ValueError):
    """The base class of all errors of this package."""


class PositionError(FirstwayError):
    """A position is out of its range."""


class LengthError(FirstwayError):
    """A text would be too long."""


class CountError(FirstwayError):
    """A count, a bound or a limit is out of its range."""


class FlagsError(FirstwayError):
    """The flags of a source are none of the allowed texts."""


class PatternError(FirstwayError):
    """A source is no pattern: at the column something else was expected."""

    def __init__(self, column, expected):
        FirstwayError.__init__(self, f"column {column}: expected {expected}")
        self.column = column
        self.expected = expected


class NotASet(FirstwayError):
    """A source is a pattern, but no set alone."""


class NoWord(FirstwayError):
    """A pattern has no word."""


class ChoiceError(FirstwayError):
    """A pattern leaves a choice."""


class FeedEnded(FirstwayError):
    """A feed was used behind its end."""


class UnknownPattern(FirstwayError):
    """A document has no pattern with the number."""


class TooManyPatterns(FirstwayError):
    """A document would have too many patterns."""


class TemplateError(FirstwayError):
    """The dollar sign at the column of a template begins nothing."""

    def __init__(self, column):
        FirstwayError.__init__(self, f"column {column}: this dollar sign begins nothing")
        self.column = column


class RulesError(FirstwayError):
    """A line of a text of rules is wrong: at the column something else was expected."""

    def __init__(self, line, column, expected):
        FirstwayError.__init__(self, f"line {line}, column {column}: expected {expected}")
        self.line = line
        self.column = column
        self.expected = expected


class TooManyRules(FirstwayError):
    """A scanner would have too many rules."""


class SavedTextError(FirstwayError):
    """A text is no saved document."""


class GroupsDiffer(FirstwayError):
    """Two patterns have not the same number of groups."""


class GroupInLook(FirstwayError):
    """A compared pattern has a group in a look."""


class TooManyStates(FirstwayError):
    """There is no answer within the limit."""
