"""The one way in which quotients are rounded to nearest."""


def nearest(dividend, divisor):
    """The integer nearest to dividend / divisor, the greater one of two; divisor is positive."""
    return (2 * dividend + divisor) // (2 * divisor)
