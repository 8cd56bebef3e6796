"""Whether a number lies in a range."""


def is_within(number, least, greatest):
    """Tell whether a number is from least to greatest, both included."""
    return least <= number and number <= greatest
