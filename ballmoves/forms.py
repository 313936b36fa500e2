"""Forms of papers: tuples that begin with a word."""


def is_told(value, word, many):
    """Whether any value is a tuple of a word and so many values more."""
    return isinstance(value, tuple) and len(value) == many + 1 and value[0] == word
