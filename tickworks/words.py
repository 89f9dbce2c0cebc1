"""Words: strings of one to eight letters from a to z."""

LONGEST = 8


def is_letter(sign):
    """Whether a string of at most one character is a letter from a to z."""
    return "a" <= sign <= "z"


def is_word(value):
    """Whether any value is a word."""
    if not isinstance(value, str) or not 1 <= len(value) <= LONGEST:
        return False
    return all([is_letter(sign) for sign in value])
