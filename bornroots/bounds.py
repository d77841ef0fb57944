"""The one question that most forms of arguments come down to."""

from bornroots.errors import BadNumber


def need_within(number, least, most):
    """Raise BadNumber(number) unless it is from least to most."""
    if not least <= number <= most:
        raise BadNumber(number)
