"""The errors that the program raises."""


class FocusError(ValueError):
    """The base class of all errors that the program raises."""


class Refused(FocusError):
    """A call that is not allowed; what tells why."""

    def __init__(self, what):
        FocusError.__init__(self, what)
        self.what = what


class BadOutline(FocusError):
    """A text that is no outline; line is its first invalid line, counted from 0."""

    def __init__(self, line):
        FocusError.__init__(self, f"invalid outline at line {line}")
        self.line = line


class BadScript(FocusError):
    """A text that is no script; line is its first line that is no deed, counted from 1."""

    def __init__(self, line):
        FocusError.__init__(self, f"invalid script at line {line}")
        self.line = line


class BadKeys(FocusError):
    """A text that denotes no keystroke or no key sequence; what tells which."""

    def __init__(self, what):
        FocusError.__init__(self, what)
        self.what = what
