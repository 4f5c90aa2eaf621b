"""What a call is refused for, and the check that refuses it."""


class OutOfRange(ValueError):
    """An argument is out of range, or there is no such block, cluster or jet."""


def check_range(value, least, greatest):
    """Refuses a value that is not from least to greatest."""
    if value < least or value > greatest:
        raise OutOfRange()


def check_all(values, least, greatest):
    """Refuses values of which one is not from least to greatest."""
    for value in values:
        check_range(value, least, greatest)
