"""What an integer is, and what a name is."""

LETTERS = "abcdefghijklmnopqrstuvwxyz"
DIGITS = "0123456789"
LONGEST_NAME = 8


def is_integer(thing):
    """Tell whether any object is an integer: an int that is not a bool."""
    return isinstance(thing, int) and not isinstance(thing, bool)


def is_name(thing):
    """Tell whether any object is a name: one to eight letters a to z and digits, a letter first."""
    if not isinstance(thing, str) or not 1 <= len(thing) <= LONGEST_NAME:
        return False
    # The methods of strings that ask for letters and digits also take signs beyond these.
    return thing[0] in LETTERS and all([sign in LETTERS + DIGITS for sign in thing])
