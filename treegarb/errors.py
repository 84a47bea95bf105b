"""The errors of the program. They are raised without arguments."""


class StyleError(ValueError):
    """The base class of all errors of the program."""


class BadDocument(StyleError):
    """A value is not a document."""


class BadPlace(StyleError):
    """There is no element at a place."""


class BadSelector(StyleError):
    """A value is not a selector, or not a list of selectors."""


class BadSheet(StyleError):
    """A value is not a sheet."""


class TooMany(StyleError):
    """A question about all documents is beyond the limits of an answer."""
