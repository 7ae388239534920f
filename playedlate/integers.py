"""What counts as an integer."""


def is_between(value, least, most):
    """Whether any value is an integer from least to most."""
    if not isinstance(value, int) or isinstance(value, bool):
        return False
    return least <= value <= most
