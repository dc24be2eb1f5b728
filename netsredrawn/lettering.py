"""The letters of names."""

MOST_LETTERS = 12


def is_letter(sign):
    """Whether a string is one small letter."""
    return len(sign) == 1 and "a" <= sign <= "z"


def is_name(value):
    """Whether a value is a string of 1 to 12 small letters."""
    if not isinstance(value, str) or not 1 <= len(value) <= MOST_LETTERS:
        return False
    return [sign for sign in value if not is_letter(sign)] == []
