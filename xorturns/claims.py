"""Claims: tuples (name, ...) that state an answer, whoever made them."""


def is_claim(value, name, many):
    """Return whether the value is a tuple of so many items, the name first."""
    return isinstance(value, tuple) and len(value) == many and value[0] == name
