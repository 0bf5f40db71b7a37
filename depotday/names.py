"""Names, as lines and pages have them."""

MOST_LETTERS = 8


def is_name(text):
    """True if the string is a name: 1 to 8 letters from a to z."""
    return 1 <= len(text) <= MOST_LETTERS and all(["a" <= letter <= "z" for letter in text])
