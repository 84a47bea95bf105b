"""Questions about the form of a value that several modules ask."""


def is_whole(value):
    """Whether the value is an integer."""
    # Python counts True and False among the integers; the document does not.
    return isinstance(value, int) and not isinstance(value, bool)


def is_rising(row):
    """Whether each entry of a tuple is less than the next one."""
    return all([left < right for left, right in zip(row, row[1:])])
