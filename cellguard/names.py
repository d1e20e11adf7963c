"""Names of areas, attributes, values and tables."""

LETTERS = "abcdefghijklmnopqrstuvwxyz"
NAME_CHARACTERS = "abcdefghijklmnopqrstuvwxyz0123456789-"
LONGEST_NAME = 12


def is_name(text):
    """Tell whether a string is a name."""
    if not 1 <= len(text) <= LONGEST_NAME:
        return False
    return text[0] in LETTERS and all([character in NAME_CHARACTERS for character in text])
