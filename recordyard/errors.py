"""The errors of the package.

None of them words a message of its own: an error shows the object that it was created with,
as Python's own errors do.
"""


class YardError(ValueError):
    """What all errors of the package are."""


class BadLevel(YardError):
    """No level."""

    def __init__(self, level):
        self.level = level


class BadName(YardError):
    """No name of a logger."""

    def __init__(self, name):
        self.name = name


class BadExtra(YardError):
    """A name in extra that records keep for themselves."""

    def __init__(self, name):
        self.name = name


class BadMessage(YardError):
    """A message whose braces do not match its args."""

    def __init__(self, msg):
        self.msg = msg


class BadField(YardError):
    """A field that a record does not have."""

    def __init__(self, name):
        self.name = name


class BadFormat(YardError):
    """No format."""

    def __init__(self, fmt):
        self.fmt = fmt


class BadStyle(YardError):
    """No style of formats."""

    def __init__(self, style):
        self.style = style


class BadMode(YardError):
    """No mode in which a file is opened."""

    def __init__(self, mode):
        self.mode = mode


class BadWhen(YardError):
    """No word for the times at which files roll over."""

    def __init__(self, when):
        self.when = when


class BadSettings(YardError):
    """Settings that are refused; path leads to what is wrong with them."""

    def __init__(self, path):
        self.path = path


class NotJudged(YardError):
    """A yard that is not judged; path leads to the first thing for which it is not."""

    def __init__(self, path):
        self.path = path


class BadCuts(YardError):
    """Names and levels from which no table can be made."""

    def __init__(self):
        pass


class BadDeed(YardError):
    """No deed of a yard."""

    def __init__(self, deed):
        self.deed = deed
