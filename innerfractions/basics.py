"""What counts as an INTEGER and as a COUNT."""


def is_integer(value):
    """Whether any value is an INTEGER."""
    # True and False are integers to Python, but not to this program.
    return isinstance(value, int) and not isinstance(value, bool)


def is_count(value):
    """Whether any value is a COUNT, an INTEGER that is at least 0."""
    return is_integer(value) and value >= 0
