"""Numerals: integers in decimal digits, as messages and keys carry them."""

DIGITS = "0123456789"


def is_numeral(text, most):
    """Whether a text is an integer from 0 on in at most so many digits, without leading zeros."""
    if text == "" or len(text) > most:
        return False
    if text[0] == "0":
        return text == "0"
    return all([sign in DIGITS for sign in text])
