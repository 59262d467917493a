"""Of what kind a value is, asked in such a way that no value whatever makes the question fail."""


def is_integer(thing):
    """Whether this is an integer; booleans are none."""
    return isinstance(thing, int) and not isinstance(thing, bool)


def is_within(thing, least, most):
    """Whether this is an integer from least to most."""
    return is_integer(thing) and least <= thing <= most


def is_word(thing, words):
    """Whether this is one of the words."""
    return isinstance(thing, str) and thing in words


def is_group(thing, size):
    """Whether this is a tuple of this size."""
    return isinstance(thing, tuple) and len(thing) == size


def is_rising(things):
    """Whether each thing but the first is greater than the one before it."""
    return all([things[at - 1] < things[at] for at in range(1, len(things))])
