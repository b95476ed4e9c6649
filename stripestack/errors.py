"""The errors of the program, all of them below Refused."""


class Refused(ValueError):
    """What every error of the program is."""


class BadSchema(Refused):
    """A schema that is none; why is the word of its first mistake."""

    def __init__(self, why):
        self.why = why


class BadRecord(Refused):
    """A record that is none of its schema; why is the word of its first mistake."""

    def __init__(self, why):
        self.why = why


class BadLayout(Refused):
    """A layout, or a use of a writer, that is not allowed."""

    def __init__(self, why):
        self.why = why


class BadColumns(Refused):
    """Columns that are not those of any list of records."""

    def __init__(self, why):
        self.why = why


class BadFile(Refused):
    """Bytes that are no file; part tells where."""

    def __init__(self, part):
        self.part = part


class NoColumn(Refused):
    """A path that is not the path of a column."""

    def __init__(self, path):
        self.path = path


class BadCondition(Refused):
    """A condition that is none; why is the word of its first mistake."""

    def __init__(self, why):
        self.why = why


class NoFit(Refused):
    """A newer schema that does not fit an elder one; path leads to the field."""

    def __init__(self, path):
        self.path = path
