"""Names of shades, baths and cloths: 1 to 8 small letters."""

LETTERS = "abcdefghijklmnopqrstuvwxyz"
LONGEST = 8


def good_name(text):
    if len(text) < 1 or len(text) > LONGEST:
        return False
    return all([sign in LETTERS for sign in text])
