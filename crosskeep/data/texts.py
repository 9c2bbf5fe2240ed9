"""Texts: characters from the space to the tilde without the percent sign (point [3])."""

# The percent sign, code 37, is the one between these two rows of characters.
LOW_SIGNS = " !\"#$"
HIGH_SIGNS = "&'()*+,-./0123456789:;<=>?@ABCDEFGHIJKLMNOPQRSTUVWXYZ[\\]^_`abcdefghijklmnopqrstuvwxyz{|}~"


def is_text(data):
    """Return True if data is a text, otherwise False."""
    return isinstance(data, str) and all([sign in LOW_SIGNS or sign in HIGH_SIGNS for sign in data])


def sign_of(code):
    """Return the character of texts that has this code, or None if there is none."""
    if 32 <= code < 37:
        return LOW_SIGNS[code - 32]
    if 38 <= code <= 126:
        return HIGH_SIGNS[code - 38]
    return None
