"""What is a word, an integer, a number."""

LETTERS = "abcdefghijklmnopqrstuvwxyz"
DIGITS = "0123456789"
LETTERS_AND_DIGITS = "abcdefghijklmnopqrstuvwxyz0123456789"
LONGEST_WORD = 12


def is_word(value):
    """Tell whether a value, which may be anything, is a word."""
    if not isinstance(value, str) or not 1 <= len(value) <= LONGEST_WORD:
        return False
    return value[0] in LETTERS and all([sign in LETTERS_AND_DIGITS for sign in value])


def is_integer(value):
    """Tell whether a value, which may be anything, is an integer."""
    # Python counts True and False among its integers; the package does not.
    return isinstance(value, int) and not isinstance(value, bool)


def is_number(value):
    """Tell whether a value, which may be anything, is an integer of at least 0."""
    return is_integer(value) and value >= 0
