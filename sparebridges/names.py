"""What a name is."""

MOST_SIGNS = 8
# Written out, since isalpha and isdigit also take signs of other alphabets.
LETTERS = "abcdefghijklmnopqrstuvwxyz"
LETTERS_AND_DIGITS = "abcdefghijklmnopqrstuvwxyz0123456789"


def is_name(value):
    """Tell whether any value is a name."""
    if not isinstance(value, str) or len(value) < 1 or len(value) > MOST_SIGNS:
        return False
    return value[0] in LETTERS and all([sign in LETTERS_AND_DIGITS for sign in value])
