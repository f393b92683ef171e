"""Limits: the numbers of guesses above which a question is not followed."""

from anylength.errors import TooWide


def check_limit(number, limit):
    """Raises TooWide if the number is above the limit."""
    if number > limit:
        raise TooWide(number)
